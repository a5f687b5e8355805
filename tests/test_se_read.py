"""Promise 1: se_read."""

import itertools
import re
import unittest

from helpers import NO_VALUE, TOO_MUCH, Unseen, Watched, nested, row, words
from setwidth.desk import se_read


class ReadCase(unittest.TestCase):
    def values(self, text, many):
        self.assertEqual(se_read(row(text)), [0, many], text)

    def no_value(self, text):
        self.assertEqual(se_read(row(text)), NO_VALUE, text)


class Ordinary(ReadCase):
    def test_word_alone(self):
        self.values("a", 1)
        self.values("set-width?", 1)

    def test_string_alone(self):
        self.values('"a"', 1)
        self.values('"two words (and brackets)"', 1)

    def test_lists_count_too(self):
        self.values("(a)", 2)
        self.values("(a b)", 3)
        self.values('(a "b" c)', 4)
        self.values("(a (b c) (d (e)))", 9)
        self.values("((a) b)", 4)
        self.values("(() ())", 3)

    def test_same_word_twice_counts_twice(self):
        self.values("(a a a)", 4)

    def test_gaps_before_between_and_behind(self):
        self.values(" a", 1)
        self.values("a ", 1)
        self.values("\na\n", 1)
        self.values(' \n "a b" \n\n ', 1)
        self.values("\n ( a \n\n  b\n) ", 3)
        self.values("( )", 1)
        self.values("(\n)", 1)
        self.values("( ( \n ) )", 2)
        self.values("(a\nb)", 3)
        self.values('("a"\n"b")', 3)

    def test_lists_stand_beside_anything_with_nothing_between(self):
        self.values("(()())", 3)
        self.values("((a)(b))", 5)
        self.values("(a(b)c)", 5)
        self.values('("a"("b")"c")', 5)
        self.values('(a()"b"()c)', 6)

    def test_words_and_strings_with_one_gap_between(self):
        self.values('(a "b")', 3)
        self.values('("a" b)', 3)
        self.values('("a" "b")', 3)
        self.values('(a\n"b"\nc)', 4)

    def test_backslash_is_an_ordinary_byte_in_a_word(self):
        self.values("\\", 1)
        self.values("\\n", 1)
        self.values("(a\\ \\\\)", 3)

    def test_backslash_before_quote_or_backslash_in_a_string(self):
        self.values('"\\""', 1)
        self.values('"\\\\"', 1)
        self.values('"a\\"b\\\\c"', 1)
        self.values('("\\\\" "\\"")', 3)

    def test_brackets_in_a_string_are_no_lists(self):
        self.values('"("', 1)
        self.values('(")")', 2)
        self.values('"' + "(" * 20 + '"', 1)


class Edges(ReadCase):
    def test_empty_list(self):
        self.values("()", 1)

    def test_list_in_a_list_in_a_list(self):
        self.values("((()))", 3)
        self.values("(((a)))", 4)

    def test_word_length(self):
        self.values("w" * 64, 1)
        self.no_value("w" * 65)
        self.values("(" + "w" * 64 + " " + "v" * 64 + ")", 3)
        self.no_value("(" + "w" * 65 + ")")
        self.no_value("w" * 128)

    def test_string_length(self):
        self.values('""', 1)
        self.values('("" "")', 3)
        self.values('"' + "s" * 64 + '"', 1)
        self.no_value('"' + "s" * 65 + '"')
        self.values('"' + " " * 64 + '"', 1)
        self.no_value('"' + " " * 65 + '"')

    def test_backslash_before_a_byte_is_not_counted(self):
        self.values('"' + "s" * 63 + '\\""', 1)
        self.values('"\\\\' + "s" * 63 + '"', 1)
        self.values('"' + '\\"' * 64 + '"', 1)
        self.values('"' + "\\\\" * 64 + '"', 1)
        self.no_value('"' + "s" * 64 + '\\""')
        self.no_value('"\\\\' + "s" * 64 + '"')
        self.no_value('"' + "\\\\" * 65 + '"')
        self.no_value('"' + '\\"' * 65 + '"')

    def test_depth(self):
        for inner, more in (("", 0), ("a", 1), ('"a" b', 2)):
            self.values(nested(8, inner), 8 + more)
            self.no_value(nested(9, inner))

    def test_depth_is_of_the_deepest_list_wherever_it_lies(self):
        self.values("(" + nested(7) + nested(7) + ")", 15)
        self.values("(" + nested(7) + " a " + nested(3) + ")", 12)
        self.no_value("(a " + nested(8) + ")")
        self.no_value("(" + nested(8) + " a)")

    def test_how_many_values(self):
        self.values(words(511), 512)
        self.assertEqual(se_read(row(words(512))), TOO_MUCH)
        self.values("(" + "()" * 511 + ")", 512)
        self.assertEqual(se_read(row("(" + "()" * 512 + ")")), TOO_MUCH)
        self.values("(" + '"" ' * 255 + "(a)" * 128 + ")", 512)
        self.assertEqual(se_read(row("(" + '"" ' * 256 + "(a)" * 128 + ")")), TOO_MUCH)
        self.assertEqual(se_read(row("(" + "a " * 2047 + ")")), TOO_MUCH)

    def test_how_many_bytes(self):
        self.values(" " * 4095 + "a", 1)
        self.values("a" + "\n" * 4095, 1)
        self.assertEqual(se_read(row(" " * 4096 + "a")), TOO_MUCH)
        self.assertEqual(se_read(row("a" + "\n" * 4096)), TOO_MUCH)
        full = "(" + ("w" * 62 + " ") * 65 + ")"
        self.assertEqual(len(full), 4097)
        self.assertEqual(se_read(row(full)), TOO_MUCH)
        self.values(full.replace("w", "", 1), 66)
        self.assertEqual(se_read([97] * 5000), TOO_MUCH)


class EachByte(unittest.TestCase):
    """Each byte from 0 to 255, wherever it may or may not stand."""

    def told(self, before, behind, expected):
        for byte in range(256):
            with self.subTest(before=before, byte=byte, behind=behind):
                self.assertEqual(se_read(row(before) + [byte] + row(behind)), [0, expected(byte)])

    def in_word(self, byte):
        return 33 <= byte <= 126 and byte not in row('()"')

    def test_alone(self):
        self.told("", "", lambda b: 1 if self.in_word(b) else -71)

    def test_in_a_word(self):
        self.told("a", "b", lambda b: 1 if self.in_word(b) else -71)

    def test_in_a_word_in_a_list(self):
        def expected(byte):
            return 2 if self.in_word(byte) else 3 if byte in (10, 32) else -71

        self.told("(a", "b)", expected)

    def test_between_lists(self):
        self.told("(()", "())", lambda b: 4 if self.in_word(b) else 3 if b in (10, 32) else -71)

    def test_in_a_string(self):
        self.told('"a', 'b"', lambda b: 1 if 32 <= b <= 126 and b not in row('"\\') else -71)

    def test_behind_a_backslash_in_a_string(self):
        self.told('"a\\', 'b"', lambda b: 1 if b in row('"\\') else -71)

    def test_between_two_strings(self):
        self.told('("a"', '"b")', lambda b: 3 if b in (10, 32) else -71)

    def test_behind_a_value(self):
        self.told("a", "", lambda b: 1 if self.in_word(b) or b in (10, 32) else -71)
        self.told('"a"', "", lambda b: 1 if b in (10, 32) else -71)
        self.told("(a)", "", lambda b: 2 if b in (10, 32) else -71)

    def test_before_a_value(self):
        self.told("", '"a"', lambda b: 1 if b in (10, 32) else -71)
        self.told("", "(a)", lambda b: 2 if b in (10, 32) else -71)


class Wrong(ReadCase):
    def test_nothing_and_gaps_alone(self):
        self.no_value("")
        self.no_value(" ")
        self.no_value("\n")
        self.no_value(" \n \n ")
        self.no_value(" " * 4096)

    def test_two_values(self):
        for text in ("a b", '"a" "b"', 'a "b"', "() ()", "()()", "a()", "()a", '""()', "(a) b", "a\nb", "(a)(b)"):
            self.no_value(text)

    def test_bracket_not_closed(self):
        for text in ("(", "(a", "((a)", "(a (b)", "( ", "(((", '("a"'):
            self.no_value(text)

    def test_bracket_too_many(self):
        for text in (")", "a)", "())", "(a))", ")(", ")a(", "(a) )", ")()", "())("):
            self.no_value(text)

    def test_string_not_closed(self):
        for text in ('"', '"a', '(")', '"a\\"', '"\\', 'a"', '("a)', '("a" "b)', '"' + "s" * 64, '"' + "s" * 65):
            self.no_value(text)

    def test_backslash_before_something_else(self):
        for text in ('"\\a"', '"\\n"', '"\\ "', '"\\("', '"\\\\\\"', '"\\\\\\a"', '"\\\n"', '("\\x")'):
            self.no_value(text)

    def test_newline_in_a_string(self):
        self.no_value('"a\nb"')
        self.no_value('("\n")')

    def test_words_and_strings_with_nothing_between(self):
        for text in ('a"b"', '"a"b', '"a""b"', '""""', '\\"a"', '"a"\\'):
            self.no_value(text)
            self.no_value("(" + text + ")")

    def test_as_long_as_its_input_and_nested_as_deep(self):
        self.no_value("(" * 4096)
        self.no_value(")" * 4096)
        self.no_value(nested(2048))
        self.no_value('"' * 4096)
        self.no_value("a" * 4096)
        self.no_value('"' + "\\" * 4095)
        self.no_value("()" * 2048)


class SeveralRefusals(ReadCase):
    """The one that is named first is answered."""

    def test_too_long_comes_before_all_else(self):
        for text in (" " * 4097, "(" * 4097, "\0" * 4097, '"' * 5000, "a " * 2500, nested(9) + " " * 4090):
            self.assertEqual(se_read(row(text)), TOO_MUCH)

    def test_no_value_comes_before_too_many_values(self):
        for behind in (")", " a", "()", "\t", "\0", "\x7f", "\xff", '"', '"a'):
            self.no_value(words(600) + behind)
        self.no_value(words(600)[:-1])
        self.no_value(words(600)[:-1] + ' "\\a")')
        self.no_value(words(600)[:-1] + " " + "w" * 65 + ")")
        self.no_value("a " * 600)
        self.no_value("()" * 600)

    def test_too_deep_comes_before_too_many_values(self):
        self.no_value("(" + "() " * 600 + nested(8) + ")")
        self.no_value("(" + nested(8) + "a " * 600 + ")")
        self.no_value(nested(8, words(600)))


class HowItIsCalled(unittest.TestCase):
    texts = ("a", '("a\\"" (b c))', "", "(", nested(9), words(511), words(512), " " * 4096, " " * 4097)

    def test_form(self):
        for text in self.texts:
            answer = se_read(row(text))
            self.assertIs(type(answer), list)
            self.assertEqual([type(number) for number in answer], [int, int])
            self.assertEqual(answer[0], 0)

    def test_what_is_handed_in_is_not_changed(self):
        for text in self.texts:
            handed = Watched(row(text))
            self.assertEqual(se_read(handed), se_read(row(text)))
            self.assertEqual(list(handed), row(text))

    def test_too_long_is_not_looked_at(self):
        for many in (4097, 5000):
            self.assertEqual(se_read(Unseen([97] * many)), TOO_MUCH)

    def test_nothing_is_kept(self):
        first = [se_read(row(text)) for text in self.texts]
        self.assertEqual([se_read(row(text)) for text in self.texts], first)
        again = [se_read(row(text)) for text in reversed(self.texts)]
        self.assertEqual(again, first[::-1])

    def test_each_answer_is_a_list_of_its_own(self):
        answer = se_read(row("(a)"))
        answer.append(5)
        self.assertEqual(se_read(row("(a)")), [0, 2])


PART = re.compile(r"""[()]|"(?:[^"\\\n]|\\["\\]){0,64}"|[^()" \n]+|[ \n]+""")


def told_otherwise(text):
    """se_read's number of a short text of printed bytes and newlines, found by rewriting instead of by counting."""
    shape = ""
    place = 0
    while place < len(text):
        part = PART.match(text, place)
        if part is None:
            return -71
        found = part.group()
        shape += found if found in ("(", ")") else " " if found.isspace() else "v"
        place = part.end()
    if "vv" in shape:
        return -71
    many = shape.count("v") + shape.count("(")
    shape = shape.replace(" ", "")
    for level in range(8):
        shape = re.sub(r"\(v*\)", "v", shape)
    return many if shape == "v" else -71


class AllShortTexts(unittest.TestCase):
    def compare(self, letters, longest):
        for length in range(longest + 1):
            for text in map("".join, itertools.product(letters, repeat=length)):
                self.assertEqual(se_read(row(text)), [0, told_otherwise(text)], repr(text))

    def test_all_signs(self):
        self.compare('()"\\a \n', 6)

    def test_brackets_and_words(self):
        self.compare("()a ", 8)

    def test_strings(self):
        self.compare('"\\a ', 8)

    def test_brackets(self):
        self.compare("()", 14)

    def test_deep_brackets(self):
        for inside in map("".join, itertools.product("()", repeat=8)):
            text = "(" * 5 + inside + ")" * 5
            self.assertEqual(se_read(row(text)), [0, told_otherwise(text)], text)


if __name__ == "__main__":
    unittest.main()
