"""Promise 2: se_same."""

import itertools
import unittest

from helpers import NO_VALUE, TOO_MUCH, Unseen, Watched, nested, parsed, row, words
from setwidth.desk import se_read, se_same

SAME = [0, 1]
OTHER = [0, 0]


class SameCase(unittest.TestCase):
    def told(self, t, u, expected):
        self.assertEqual(se_same(row(t), row(u)), expected, (t, u))

    def same(self, t, u):
        self.told(t, u, SAME)
        self.told(u, t, SAME)

    def other(self, t, u):
        self.told(t, u, OTHER)
        self.told(u, t, OTHER)

    def all_same(self, texts):
        for t, u in itertools.product(texts, repeat=2):
            self.told(t, u, SAME)

    def all_other(self, texts):
        for (i, t), (k, u) in itertools.product(enumerate(texts), repeat=2):
            self.told(t, u, SAME if i == k else OTHER)


class Same(SameCase):
    def test_the_same_text(self):
        for text in ("a", '"a"', '""', "()", "(a b)", '(a "b" (c) ())', "((()))"):
            self.same(text, text)

    def test_gaps_around_a_word_or_a_string(self):
        self.all_same(("a", " a", "a ", "\na", "a\n", " \n\n a  \n"))
        self.all_same(('"a b"', ' "a b"', '"a b"\n', '\n\n  "a b" \n '))

    def test_gaps_in_and_around_a_list(self):
        self.all_same(("()", "( )", "(\n)", " ( \n ) ", "\n()\n"))
        self.all_same(("(a b)", "( a b )", "(a  b)", "(a\nb)", "(\na\n\n b\n)\n", " (a     b)"))

    def test_with_and_without_something_beside_a_bracket(self):
        self.all_same(("(a(b)c)", "(a (b) c)", "( a ( b ) c )", "(a\n(b)\nc)", "(a( b )c)"))
        self.all_same(('("a"(b)"c")', '("a" (b) "c")', '( "a"\n(b)"c")'))
        self.all_same(("(()())", "(() ())", "( ( )\n( ) )"))

    def test_however_it_is_set_out(self):
        self.all_same(("(define (square x) (* x x))",
                       "(define\n  (square\n    x)\n  (*\n    x\n    x))",
                       "(define (square x)\n        (* x x))",
                       "(define (square x)\n  (* x\n     x))"))

    def test_backslashes_in_strings(self):
        self.same('"\\""', ' "\\"" ')
        self.same('("\\\\" "a\\"b")', '("\\\\"\n "a\\"b")')
        self.same('("\\"("(a))', '( "\\"(" (a) )')


class Other(SameCase):
    def test_words(self):
        self.all_other(("a", "b", "A", "aa", "ab", "ba", "\\", "\\\\", "1", "01"))

    def test_each_byte_of_a_word(self):
        for place in range(64):
            self.other("w" * 64, "w" * place + "v" + "w" * (63 - place))
        self.other("w" * 64, "w" * 63)

    def test_each_word_of_one_byte(self):
        self.all_other([chr(byte) for byte in range(33, 127) if chr(byte) not in '()"'])

    def test_strings(self):
        self.all_other(('""', '" "', '"  "', '"a"', '"b"', '"A"', '"aa"', '" a"', '"a "', '"a b"', '"a  b"', '"()"'))

    def test_each_byte_of_a_string(self):
        for place in range(64):
            self.other('"' + "w" * 64 + '"', '"' + "w" * place + " " + "w" * (63 - place) + '"')

    def test_gaps_in_a_string_are_bytes_of_it(self):
        self.all_other(('("a b")', '("a  b")', '(" a b")', '("a b ")', '("ab")'))

    def test_backslashes_in_strings(self):
        self.all_other(('"\\""', '"\\\\"', '"\\"\\""', '"\\\\\\\\"', '"\\"\\\\"', '"\\\\\\""', '"a\\"b"', '"a\\\\b"',
                        '"ab"', '""', '"a"'))

    def test_a_word_and_a_string_of_the_same_bytes(self):
        self.all_other(("a", '"a"', '"\\"a\\""'))
        self.all_other(("(a)", '("a")', '"(a)"'))
        self.all_other(("\\", '"\\\\"'))
        self.all_other(("(a b)", '(a "b")', '("a" b)', '("a" "b")', '("a b")', '"a b"', '"(a b)"'))

    def test_how_many_values_a_list_has(self):
        self.all_other([words(many) for many in (0, 1, 2, 3, 4, 510, 511)])
        self.all_other(("()", '("")', '("" "")', "(a)", "(a a)", "(aa)"))

    def test_how_deep_a_value_lies(self):
        self.all_other(("(a b)", "((a) b)", "(a (b))", "((a b))", "((a) (b))", "(((a) b))", "(a ((b)))", "(((a b)))"))

    def test_order(self):
        self.all_other(["(" + " ".join(order) + ")" for order in itertools.permutations(("a", "b", '"a"', "()"))])
        self.other("((a) b)", "(b (a))")

    def test_where_an_empty_list_lies(self):
        self.all_other(("()", "(())", "(() ())", "((()))", "((() ()))", "((()) ())", "(() (()))", "(() () ())"))
        self.all_other(("(a ())", "(() a)", "((a))", "(a)", "((a ()))", "(a (()))"))

    def test_a_value_and_a_list_that_has_it_alone(self):
        for text in ("a", '"a"', "()", "(a)", "(a b)", "((a) b)"):
            self.other(text, "(" + text + ")")
            self.other("(" + text + ")", "((" + text + "))")

    def test_the_one_begins_like_the_other(self):
        self.all_other(("(a)", "(a b)", "(a b c)", "(a (b c))", "(a (b) c)", "((a b) c)"))

    def test_last_of_many(self):
        self.other("(" + "a " * 510 + "a)", "(" + "a " * 510 + "b)")
        self.other("(" + "a " * 510 + "a)", "(" + "a " * 510 + "())")
        self.other("(" + "a " * 510 + "a)", "(" + "a " * 510 + '"a")')


REFUSED = {" " * 4097: TOO_MUCH, "(" * 5000: TOO_MUCH, "": NO_VALUE, "(": NO_VALUE, "a b": NO_VALUE, '"': NO_VALUE,
           "w" * 65: NO_VALUE, nested(9): NO_VALUE, "\0": NO_VALUE, "\xff": NO_VALUE, words(512): TOO_MUCH}


class Refusals(SameCase):
    def test_of_t_alone(self):
        for text, refusal in REFUSED.items():
            self.told(text, "a", refusal)
            self.told(text, words(511), refusal)

    def test_of_u_alone(self):
        for text, refusal in REFUSED.items():
            self.told("a", text, refusal)
            self.told(words(511), text, refusal)

    def test_of_both_t_is_answered(self):
        for (t, refusal), u in itertools.product(REFUSED.items(), REFUSED):
            self.told(t, u, refusal)

    def test_refused_as_se_read_refuses(self):
        for text, refusal in REFUSED.items():
            self.assertEqual(se_read(row(text)), refusal)

    def test_the_same_refused_text_twice(self):
        for text, refusal in REFUSED.items():
            handed = row(text)
            self.assertEqual(se_same(handed, handed), refusal)

    def test_a_refused_text_that_begins_like_a_good_one(self):
        self.told("(a)", "(a))", NO_VALUE)
        self.told("(a) a", "(a)", NO_VALUE)
        self.told("(a", "(a)", NO_VALUE)


class Edges(SameCase):
    def test_the_same_list_handed_in_twice(self):
        for text in ("a", "()", '(a "b" (c))', words(511)):
            handed = row(text)
            self.assertEqual(se_same(handed, handed), SAME)

    def test_how_many_values(self):
        self.same(words(511), words(511).replace(" ", "\n"))
        self.told(words(511), words(512), TOO_MUCH)
        self.told(words(512), words(511), TOO_MUCH)
        self.told(words(512), words(512), TOO_MUCH)

    def test_depth(self):
        self.same(nested(8), nested(8).replace("(", "( "))
        self.other(nested(8), nested(7))
        self.other(nested(8, "a"), nested(8))
        self.told(nested(8), nested(9), NO_VALUE)
        self.told(nested(9), nested(8), NO_VALUE)
        self.told(nested(9), nested(9), NO_VALUE)

    def test_how_many_bytes(self):
        self.same("a" + " " * 4095, "\n" * 4095 + "a")
        self.other("a" + " " * 4095, "b" + " " * 4095)
        self.told("a" + " " * 4096, "a", TOO_MUCH)
        self.told("a", "a" + " " * 4096, TOO_MUCH)
        self.told("a" + " " * 4095, "a" + " " * 4096, TOO_MUCH)
        full = "(" + ("w" * 62 + " ") * 64 + "w" * 62 + ")"
        self.assertEqual(len(full), 4096)
        self.same(full, full)
        self.other(full, full.replace("w)", "v)"))

    def test_longest_words_and_strings(self):
        self.same("w" * 64, " " + "w" * 64)
        self.same('"' + '\\"' * 64 + '"', ' "' + '\\"' * 64 + '"')
        self.other('"' + '\\"' * 64 + '"', '"' + '\\"' * 63 + '\\\\"')


class HowItIsCalled(unittest.TestCase):
    texts = ("a", '"a"', '("a\\"" (b c))', "", "(", nested(8), nested(9), words(511), words(512), " " * 4097)

    def pairs(self):
        return itertools.product(self.texts, repeat=2)

    def test_form(self):
        for t, u in self.pairs():
            answer = se_same(row(t), row(u))
            self.assertIs(type(answer), list)
            self.assertEqual([type(number) for number in answer], [int, int])
            self.assertEqual(answer[0], 0)

    def test_what_is_handed_in_is_not_changed(self):
        for t, u in self.pairs():
            handed_t, handed_u = Watched(row(t)), Watched(row(u))
            self.assertEqual(se_same(handed_t, handed_u), se_same(row(t), row(u)))
            self.assertEqual((list(handed_t), list(handed_u)), (row(t), row(u)))

    def test_too_long_is_not_looked_at(self):
        for many in (4097, 5000):
            unseen = Unseen([97] * many)
            self.assertEqual(se_same(unseen, row("a")), TOO_MUCH)
            self.assertEqual(se_same(row("a"), unseen), TOO_MUCH)
            self.assertEqual(se_same(unseen, unseen), TOO_MUCH)
            self.assertEqual(se_same(unseen, row("(")), TOO_MUCH)
            self.assertEqual(se_same(row("("), unseen), NO_VALUE)

    def test_nothing_is_kept(self):
        first = [se_same(row(t), row(u)) for t, u in self.pairs()]
        self.assertEqual([se_same(row(t), row(u)) for t, u in self.pairs()], first)
        again = [se_same(row(t), row(u)) for t, u in reversed(list(self.pairs()))]
        self.assertEqual(again, first[::-1])

    def test_each_answer_is_a_list_of_its_own(self):
        answer = se_same(row("(a)"), row("(a)"))
        answer.append(5)
        self.assertEqual(se_same(row("(a)"), row("(a)")), SAME)


class AllShortTexts(unittest.TestCase):
    def compare(self, letters, longest):
        all_signs = [signs for length in range(longest + 1) for signs in itertools.product(letters, repeat=length)]
        good = [text for text in map("".join, all_signs) if se_read(row(text))[1] > 0]
        self.assertGreater(len(good), 20)
        for t, u in itertools.product(good, repeat=2):
            self.assertEqual(se_same(row(t), row(u)), SAME if parsed(t) == parsed(u) else OTHER, (t, u))

    def test_lists(self):
        self.compare("()a ", 5)

    def test_strings(self):
        self.compare('"\\a ', 4)

    def test_lists_and_strings(self):
        self.compare('()"a', 5)


if __name__ == "__main__":
    unittest.main()
