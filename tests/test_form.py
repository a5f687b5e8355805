"""The package's form: what it may call, how large it may be, and that it imports nothing."""

import ast
import builtins
import inspect
import pathlib
import re
import unittest

import setwidth.desk

FOLDER = pathlib.Path(setwidth.__file__).parent
FILES = sorted(FOLDER.rglob("*.py"))
OWN_NAMES = """len range enumerate zip min max sum abs sorted reversed int str bool list tuple dict set frozenset
    isinstance ord repr any all divmod""".split()
LEFT_OUT = (ast.Import, ast.ImportFrom, ast.With, ast.Match, ast.Delete, ast.Global, ast.Nonlocal, ast.Assert,
            ast.Yield, ast.YieldFrom, ast.AsyncFunctionDef, ast.Await, ast.SetComp, ast.DictComp, ast.GeneratorExp,
            ast.NamedExpr, ast.Starred, ast.Div)

METHODS = """append clear copy count endswith extend find get index insert isalnum isalpha isdigit islower isspace
    isupper items join keys ljust lower lstrip partition pop remove replace reverse rfind rjust rpartition rsplit rstrip
    setdefault split splitlines startswith strip update upper values zfill bit_length""".split()
NOWHERE = re.compile(r"""\b(type|typing|typing_extensions|enum|Enum|IntEnum|StrEnum|Flag|IntFlag|Generic|Protocol|ABC
    |ABCMeta|namedtuple|NamedTuple|TypedDict|TYPE_CHECKING|abstractmethod|register|mro|elements|open|input)\b
    |dataclass|overload|contextmanager""", re.VERBOSE)


class Form(unittest.TestCase):
    def each_node(self):
        for path in FILES:
            for node in ast.walk(ast.parse(path.read_text("ascii"))):
                yield node, f"{path.name}:{getattr(node, 'lineno', 0)}"

    def test_nothing_but_python_files_lies_in_the_package(self):
        inside = [path for path in FOLDER.rglob("*") if path.is_file() and "__pycache__" not in path.parts]
        self.assertEqual(sorted(inside), FILES)
        self.assertIn(FOLDER / "__init__.py", FILES)
        self.assertIn(FOLDER / "desk.py", FILES)

    def test_signs_and_sizes(self):
        for path in FILES:
            text = path.read_bytes().decode("ascii")
            self.assertTrue(all(sign == "\n" or " " <= sign <= "~" for sign in text), path.name)
            rows = text.split("\n")
            self.assertLessEqual(len(rows), 400, path.name)
            self.assertLessEqual(max(map(len, rows)), 120, path.name)

    def test_functions_are_small_and_plain(self):
        for node, where in self.each_node():
            if isinstance(node, ast.FunctionDef):
                self.assertLessEqual(node.end_lineno - node.lineno + 1, 40, where)
                self.assertEqual(node.decorator_list, [], where)
                self.assertIsNone(node.args.vararg or node.args.kwarg, where)

    def test_nothing_left_out_of_the_language_stands_there(self):
        for node, where in self.each_node():
            self.assertNotIsInstance(node, LEFT_OUT, where)
            if isinstance(node, ast.Constant):
                self.assertNotIsInstance(node.value, (float, bytes, complex), where)

    def test_names(self):
        for node, where in self.each_node():
            if isinstance(node, ast.Name):
                self.assertFalse(node.id.startswith("_"), where)
                if hasattr(builtins, node.id):
                    self.assertIn(node.id, OWN_NAMES, where)
                    self.assertIsInstance(node.ctx, ast.Load, where)

    def test_words_that_stand_nowhere(self):
        for path in FILES:
            self.assertIsNone(NOWHERE.search(path.read_text("ascii")), path.name)

    def test_methods(self):
        for node, where in self.each_node():
            if isinstance(node, ast.Call) and isinstance(node.func, ast.Attribute):
                self.assertIn(node.func.attr, METHODS, where)

    def test_is_stands_beside_none_true_and_false_alone(self):
        for node, where in self.each_node():
            if isinstance(node, ast.Compare) and any(isinstance(sign, (ast.Is, ast.IsNot)) for sign in node.ops):
                self.assertIn(ast.unparse(node.comparators[-1]), ("None", "True", "False"), where)

    def test_what_the_document_names_is_there(self):
        for name, arguments in (("se_read", ["t"]), ("se_same", ["t", "u"]), ("se_cost", ["width", "t"]),
                                ("se_set", ["width", "t"])):
            found = getattr(setwidth.desk, name)
            self.assertEqual(list(inspect.signature(found).parameters), arguments)


if __name__ == "__main__":
    unittest.main()
