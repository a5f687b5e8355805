"""The package's form: what it may call, how large it may be, and that it imports nothing."""

import ast
import builtins
import pathlib
import unittest

import setwidth

FOLDER = pathlib.Path(setwidth.__file__).parent
FILES = sorted(FOLDER.rglob("*.py"))
OWN_NAMES = """len range enumerate zip min max sum abs sorted reversed int str bool list tuple dict set frozenset
    isinstance ord repr any all divmod""".split()
LEFT_OUT = (ast.Import, ast.ImportFrom, ast.With, ast.Match, ast.Delete, ast.Global, ast.Nonlocal, ast.Assert,
            ast.Yield, ast.YieldFrom, ast.AsyncFunctionDef, ast.Await, ast.SetComp, ast.DictComp, ast.GeneratorExp,
            ast.NamedExpr, ast.Starred, ast.Div)


class Form(unittest.TestCase):
    def each_node(self):
        for path in FILES:
            for node in ast.walk(ast.parse(path.read_text("ascii"))):
                yield node, f"{path.name}:{getattr(node, 'lineno', 0)}"

    def test_nothing_but_python_files_lies_in_the_package(self):
        inside = [path for path in FOLDER.rglob("*") if path.is_file() and "__pycache__" not in path.parts]
        self.assertEqual(sorted(inside), FILES)
        self.assertIn(FOLDER / "__init__.py", FILES)
        self.assertIn(FOLDER / "desk.py", FILES)

    def test_signs_and_sizes(self):
        for path in FILES:
            text = path.read_bytes().decode("ascii")
            self.assertTrue(all(sign == "\n" or " " <= sign <= "~" for sign in text), path.name)
            rows = text.split("\n")
            self.assertLessEqual(len(rows), 400, path.name)
            self.assertLessEqual(max(map(len, rows)), 120, path.name)

    def test_functions_are_small_and_plain(self):
        for node, where in self.each_node():
            if isinstance(node, ast.FunctionDef):
                self.assertLessEqual(node.end_lineno - node.lineno + 1, 40, where)
                self.assertEqual(node.decorator_list, [], where)
                self.assertIsNone(node.args.vararg or node.args.kwarg, where)

    def test_nothing_left_out_of_the_language_stands_there(self):
        for node, where in self.each_node():
            self.assertNotIsInstance(node, LEFT_OUT, where)
            if isinstance(node, ast.Constant):
                self.assertNotIsInstance(node.value, (float, bytes, complex), where)

    def test_names(self):
        for node, where in self.each_node():
            if isinstance(node, ast.Name):
                self.assertFalse(node.id.startswith("_"), where)
                if hasattr(builtins, node.id):
                    self.assertIn(node.id, OWN_NAMES, where)
                    self.assertIsInstance(node.ctx, ast.Load, where)


if __name__ == "__main__":
    unittest.main()
