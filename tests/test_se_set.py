"""Promise 4: se_set; and what holds over the whole program, a to d."""

import itertools
import unittest

from helpers import (BAD_WIDTH, NO_VALUE, TOO_MUCH, Unseen, Watched, all_ways, drawn_value, flat, measured, nested,
                     parsed, row, small_values, words)
from setwidth.desk import se_cost, se_read, se_same, se_set

GREATEST = 9223372036854775807


def set_text(width, text):
    """The text that se_set answers, as a text."""
    answer = se_set(width, row(text))
    if answer[0] != 2 or answer[1] != len(answer) - 2:
        raise AssertionError((width, text, answer[:2]))
    return bytes(answer[2:]).decode("ascii")


def large_text(ending):
    """A text that in the width 200 comes to 65,527 bytes and those of ending."""
    return "(" + "w" * 64 + " (" + "v" * 64 + " " + "a " * 488 + "a" + ending + "))"


class SetCase(unittest.TestCase):
    def sets(self, width, *lines):
        """The lines are the first of all cheapest ways, and what is answered: of them, and of their value flat."""
        text = "\n".join(lines)
        value = parsed(text)
        self.assertEqual(set_text(width, flat(value)), text)
        self.assertEqual(set_text(width, text), text)
        first = min(all_ways(value), key=lambda way: measured(way, width))
        self.assertEqual(first, text)

    def bytes_of(self, width, text, expected):
        self.assertEqual(se_set(width, row(text)), [2, len(expected)] + expected)


class WordsAndStrings(SetCase):
    def test_as_they_are_in_each_width(self):
        strings = ('""', '"a"', '"two words"', '"\\""', '"\\\\"', '"a\\"b\\\\c"', '"()"', '"' + "\\\\" * 64 + '"')
        for text in ("a", "word", "\\", "w" * 64) + strings:
            for width in (1, 2, 5, 64, 199, 200):
                self.assertEqual(set_text(width, text), text)

    def test_gaps_around_them_fall_away(self):
        self.assertEqual(set_text(1, " \n a\n "), "a")
        self.assertEqual(set_text(1, ' "a  b" '), '"a  b"')

    def test_bytes(self):
        self.bytes_of(5, "a", [97])
        self.bytes_of(5, '"\\" "', [34, 92, 34, 32, 34])
        for byte in range(33, 127):
            if chr(byte) not in '()"':
                self.bytes_of(1, chr(byte), [byte])


class EachWay(SetCase):
    def test_flat(self):
        self.sets(200, "(a b c)")
        self.sets(7, "(a b c)")
        self.sets(200, '(a (b "c d") ((e)) ())')
        self.bytes_of(5, "(a b)", [40, 97, 32, 98, 41])
        self.bytes_of(5, " ( a \n\n b ) ", [40, 97, 32, 98, 41])
        self.bytes_of(9, "(a(b)c)", [40, 97, 32, 40, 98, 41, 32, 99, 41])
        self.bytes_of(7, "(()())", [40, 40, 41, 32, 40, 41, 41])

    def test_below(self):
        self.sets(4, "(a", "  b)")
        self.sets(12, "(longer-word", "  aaaa", "  bbbb)")
        self.sets(9, "((aa bb)", "  cc", "  dd)")
        self.sets(9, "((a b)", "  (c d)", "  (e f))")
        self.bytes_of(4, "(a b)", [40, 97, 10, 32, 32, 98, 41])
        self.bytes_of(4, "(()a)", [40, 40, 41, 10, 32, 32, 97, 41])

    def test_beside(self):
        self.sets(9, "(if aaaa", "    bbbb)")
        self.sets(9, "(if aaaa", "    bbbb", "    cccc)")
        self.sets(8, '("s" aa', "     bb)")
        self.sets(9, "(if (a b)", "    (c)", "    d)")
        self.bytes_of(6, "(a b c)", [40, 97, 32, 98, 10, 32, 32, 32, 99, 41])

    def test_below_in_below(self):
        self.sets(7, "(a", "  (b", "    c))")
        self.sets(8, "((aaa", "   bbb)", "  c)")
        self.sets(6, "(((a", "    b)))")

    def test_beside_in_beside(self):
        self.sets(12, "(if (f aaaa", "       bbb)", "    c)")
        self.sets(9, "(a (b c", "      d))")

    def test_below_in_beside(self):
        self.sets(14, "(let ((aaa bb)", "       ccc)", "     dd)")

    def test_beside_in_below(self):
        self.sets(10, "(long-word", "  (f aaaa", "     bbb)", "  c)")

    def test_inner_ways_that_differ_from_one_another(self):
        self.sets(13, "(do (a b)", "    (cc dddd", "        eee)", "    ((f g)", "      hhhhh))")

    def test_over_the_edge(self):
        self.sets(4, "(aaaaaa", "  b)")
        self.sets(4, "(b", "  aaaaaa", "  b)")
        self.sets(6, "(a", "  (bbbbbbbbbb", "    c", "    d)", "  e)")
        self.sets(3, "(aaaa)")

    def test_a_string_with_gaps_and_brackets_is_not_broken(self):
        self.sets(8, '(a', '  "b (c d) e"', "  f)")
        self.sets(6, '("\\"\\\\"', "  a)")


class TheWayTaken(SetCase):
    """Of all cheapest ways the first."""

    def tied(self, width, *ways):
        """The ways, each a row of lines, cost the same, no other is cheaper, and the first of them is taken."""
        texts = ["\n".join(lines) for lines in ways]
        possible = all_ways(parsed(texts[0]))
        least = min(measured(way, width) for way in possible)
        for text in texts:
            self.assertIn(text, possible)
            self.assertEqual(measured(text, width), least, text)
        for text in texts:
            self.assertEqual(set_text(width, text), texts[0])

    def test_beside_comes_before_below(self):
        self.tied(9, ("(aa (b", "      c))"), ("(aa", "  (b c))"))
        self.tied(7, ("(a (b", "     c)", "   d)"), ("(a", "  (b c)", "  d)"))

    def test_three_alike(self):
        self.tied(12, ("(a (b (c", "        d)))"), ("(a (b", "     (c d)))"), ("(a", "  (b (c d)))"))

    def test_outermost_first(self):
        # Beside outside and below inside comes before below outside, whatever stands inside.
        self.tied(12, ("(w (aaa", "     bbbb)", "   (c d))"), ("(w", "  (aaa bbbb)", "  (c d))"))

    def test_flat_outside_before_all_else(self):
        self.tied(9, ("(a (b c))",))
        self.tied(1, ("(a (b c))",))
        self.tied(1, ("((a) b)",))

    def test_flat_inside_where_it_costs_the_same(self):
        self.tied(8, ("((a b)", "  (c d))"))
        self.tied(8, ("(aa (b)", "    (c))"))

    def test_fewer_beyond_comes_before_the_order(self):
        # Flat has 1 beyond.
        self.sets(4, "(a", "  b)")
        # Beside has 1 beyond, one line less.
        self.sets(5, "(a", "  b", "  cc)")

    def test_fewer_lines_come_before_the_order(self):
        # Beside outside would have three lines.
        self.sets(10, "(aaa", "  (bb cc))")


class Corners(SetCase):
    def test_empty_list(self):
        for width in (1, 2, 3, 200):
            self.sets(width, "()")
            self.assertEqual(set_text(width, "( \n)"), "()")
        self.sets(4, "(()", "  ())")
        self.sets(6, "(a ()", "   ())")

    def test_list_in_list_in_list_each_alone(self):
        for width in (1, 3, 6, 200):
            self.sets(width, "((()))")
            self.sets(width, "(((a)))")
        self.sets(8, "(((a", "    b", "    c)))")
        self.sets(9, "(((a b", "     c)))")

    def test_string_as_wide_as_the_width(self):
        self.sets(6, '"abcd"')
        self.sets(6, '("abcd")')
        self.sets(6, '("abcd"', "  a)")
        self.sets(6, "(a", '  "abcd"', "  b)")

    def test_closing_brackets_alone_go_over_the_edge(self):
        self.sets(5, "(aaaa)")
        self.sets(5, "((((a))))")
        self.sets(5, "(a", "  bbb)")
        self.sets(6, "((a", "   bbb))")
        self.sets(7, "(a", "  (b", "    c))")
        self.sets(9, "(aa (b", "      c))")

    def test_width_one(self):
        self.sets(1, "a")
        self.sets(1, "(a b)")
        self.sets(1, "(aaa (b c) d)")
        for seed in range(50):
            text = flat(drawn_value(seed, 20))
            self.assertEqual(set_text(1, text), text)

    def test_eight_deep(self):
        for width in (1, 8, 16, 200):
            self.sets(width, nested(8))
            self.sets(width, nested(8, "a"))
        self.sets(17, "((((((((a", "         b))))))))")
        self.sets(31, "(a (b (c (d (e (f (g (h))))))))")
        self.sets(30, "(a (b (c (d (e (f (g", "                    (h))))))))")
        self.sets(15, "(a", "  (b", "    (c", "      (d", "        (e", "          (f", "            (g",
                  "              (h))))))))")

    def test_first_value_is_a_list(self):
        self.sets(8, "((a)", "  bbb", "  c)")
        self.sets(8, "(()", "  bbb", "  ccc)")
        self.sets(7, "((a b", "    c)", "  d)")
        self.sets(8, "(((a b)", "   c)", "  d)")


class AgainstAllWays(unittest.TestCase):
    """b, and the way that's taken: the first of all cheapest ways, each way written out and its lines measured."""

    def compare(self, value, widths):
        ways = all_ways(value)
        for width in widths:
            first = min(ways, key=lambda way: measured(way, width))
            self.assertEqual(set_text(width, flat(value)), first, width)

    def test_all_small_values(self):
        for nodes in range(1, 7):
            for value in small_values(nodes, ("a", "bbb")):
                self.compare(value, range(1, len(flat(value)) + 2))

    def test_all_small_values_with_longer_leaves(self):
        for nodes in range(1, 6):
            for value in small_values(nodes, ("a", '"s t"', "wwwwwwwww")):
                self.compare(value, range(1, len(flat(value)) + 2))

    def test_values_with_several_lists(self):
        for seed in range(300):
            value = drawn_value(seed, 8)
            whole = len(flat(value))
            widths = {1, 2, 3, 5, 8, 10, 12, 14, 16, 20, 25, 30, 40, 50, whole - 2, whole - 1, whole, whole + 1}
            self.compare(value, [width for width in sorted(widths) if 1 <= width <= 200])

    def test_eight_deep(self):
        for wide in (1, 2, 5):
            first, last = ("a", "b"), ("b", "a")
            for level in range(7):
                first = (first, "w" * wide)
                last = ("w" * wide, last)
            self.compare(first, range(1, len(flat(first)) + 2))
            self.compare(last, range(1, len(flat(last)) + 2, 3))


class WhatHolds(unittest.TestCase):
    def texts(self):
        for seed in range(2000, 2060):
            yield flat(drawn_value(seed, 40))
        for many in (0, 1, 2, 50, 200, 511):
            yield words(many)
        yield "(" + nested(7) * 73 + ")"
        yield "(" + nested(7, "aa bb") * 56 + ")"
        yield "(" + " ".join(["w" * 64] * 62) + ")"
        yield "".join("(" + "w" * (2 ** level) + " " for level in range(6)) + words(200) + ")" * 6

    def test_read_again_it_is_the_same_value(self):
        for text in self.texts():
            for width in (1, 7, 20, 33, 80, 120, 200):
                again = row(set_text(width, text))
                if len(again) <= 4096:
                    self.assertEqual(se_same(again, row(text)), [0, 1])
                self.assertEqual(parsed(bytes(again).decode()), parsed(text))

    def test_each_way_of_a_value_is_the_same_value(self):
        for seed in range(60):
            value = drawn_value(seed, 5)
            for way in all_ways(value):
                self.assertEqual(se_same(row(way), row(flat(value))), [0, 1])

    def test_set_out_again_it_is_the_same_text(self):
        for text in self.texts():
            for width in (1, 7, 20, 33, 80, 120, 200):
                again = set_text(width, text)
                if len(again) <= 4096:
                    self.assertEqual(set_text(width, again), again)

    def test_however_it_was_set_out_it_is_set_out_the_same(self):
        for seed in range(60):
            ways = all_ways(drawn_value(seed, 5))
            for width in (5, 12, 30):
                expected = set_text(width, ways[0])
                for way in ways[1:60]:
                    self.assertEqual(set_text(width, way), expected)
        for text in list(self.texts())[:20]:
            self.assertEqual(set_text(20, set_text(33, text)), set_text(20, text))

    def test_it_costs_what_se_cost_answers(self):
        for text in self.texts():
            for width in (1, 2, 7, 20, 33, 80, 120, 199, 200):
                beyond, lines = measured(set_text(width, text), width)
                self.assertEqual(se_cost(width, row(text)), [1, beyond, lines])

    def test_in_a_greater_width_it_is_never_dearer(self):
        for text in self.texts():
            costs = [measured(set_text(width, text), width) for width in range(1, 201, 11)]
            self.assertEqual(costs, sorted(costs, reverse=True))

    def test_no_newline_behind_the_last_line_and_no_empty_one(self):
        for text in self.texts():
            for width in (1, 20, 80):
                for line in set_text(width, text).split("\n"):
                    self.assertNotEqual(line.strip(" "), "")
                    self.assertEqual(line.rstrip(" "), line)


class Refusals(unittest.TestCase):
    refused = {" " * 4097: TOO_MUCH, "(" * 5000: TOO_MUCH, "": NO_VALUE, "(": NO_VALUE, "a b": NO_VALUE, '"': NO_VALUE,
               "w" * 65: NO_VALUE, nested(9): NO_VALUE, "\0": NO_VALUE, "\xff": NO_VALUE, words(512): TOO_MUCH}

    def test_of_the_text(self):
        for text, refusal in self.refused.items():
            for width in (1, 80, 200):
                self.assertEqual(se_set(width, row(text)), refusal)

    def test_of_the_text_ahead_of_the_width(self):
        for text, refusal in self.refused.items():
            for width in (0, 201, GREATEST):
                self.assertEqual(se_set(width, row(text)), refusal)

    def test_of_the_width(self):
        for text in ("a", "()", "(a b)", nested(8), words(511)):
            for width in (0, 201, 202, 256, 257, 456, 65537, 2 ** 32 + 1, GREATEST - 1, GREATEST):
                self.assertEqual(se_set(width, row(text)), BAD_WIDTH)

    def test_of_the_width_ahead_of_too_much(self):
        for width in (0, 201, GREATEST):
            self.assertEqual(se_set(width, row(large_text("aaaaaaaaaaaaaaaaaa"))), BAD_WIDTH)

    def test_widths_at_the_edge(self):
        self.assertEqual(set_text(1, "(a b)"), "(a b)")
        self.assertEqual(set_text(200, "(a b)"), "(a b)")
        just = "(" + " ".join(["w" * 49] * 3 + ["v" * 48]) + ")"
        self.assertEqual(set_text(200, just), just)
        self.assertEqual(set_text(199, just).count("\n"), 2)

    def test_too_much(self):
        for more in range(9):
            self.assertEqual(se_set(200, row(large_text("a" * more)))[:2], [2, 65527 + more])
        self.assertEqual(se_set(200, row(large_text("a" * 9)))[:2], [2, 65536])
        for more in (10, 11, 12, 30):
            self.assertEqual(se_set(200, row(large_text("a" * more))), TOO_MUCH)
        self.assertEqual(se_set(200, row(large_text(" a"))), TOO_MUCH)

    def test_what_comes_just_to_the_most(self):
        text = large_text("a" * 9)
        before = "(" + "w" * 64 + " (" + "v" * 64 + " "
        lines = [before + "a"] + [" " * 132 + "a"] * 487 + [" " * 132 + "a" * 10 + "))"]
        self.assertEqual(set_text(200, text), "\n".join(lines))
        self.assertEqual(se_read(row(text)), [0, 493])

    def test_too_much_in_one_width_is_not_in_another(self):
        text = row(large_text("a" * 10))
        self.assertEqual(se_set(200, text), TOO_MUCH)
        # Beside, the last line has 145 bytes.
        self.assertEqual(se_set(145, text), TOO_MUCH)
        self.assertEqual(se_set(144, text)[0], 2)
        self.assertEqual(se_set(1, text)[:2], [2, len(text)])
        self.assertEqual(se_cost(200, text), [1, 0, 489])

    def test_far_too_much(self):
        text = "".join("(" + "w" * 20 + " " for level in range(7)) + words(490) + ")" * 7
        self.assertEqual(se_set(200, row(text)), TOO_MUCH)


class LargeTexts(SetCase):
    def test_many_words(self):
        spaces = "\n" + " " * 3
        self.assertEqual(set_text(200, words(511)), "(a " + spaces.join(["a"] * 510) + ")")
        self.assertEqual(set_text(5, words(511)), "(a " + spaces.join(["a"] * 510) + ")")
        self.assertEqual(set_text(4, words(511)), "(" + "\n  ".join(["a"] * 511) + ")")
        self.assertEqual(set_text(1, words(511)), words(511))

    def test_many_empty_lists(self):
        self.assertEqual(set_text(200, "(" + "()" * 511 + ")"), "(" + "\n  ".join(["()"] * 511) + ")")

    def test_longest_words(self):
        many = ["w" * 64] * 62
        text = "(" + " ".join(many) + ")"
        self.assertEqual(set_text(131, text), "(" + many[0] + " " + ("\n" + " " * 66).join(many[1:]) + ")")
        self.assertEqual(set_text(130, text), "(" + "\n  ".join(many) + ")")
        self.assertEqual(set_text(2, text), "(" + "\n  ".join(many) + ")")
        self.assertEqual(set_text(1, text), text)

    def test_longest_strings(self):
        many = ['"' + '\\"' * 64 + '"'] * 31
        self.assertEqual(set_text(200, "(" + " ".join(many) + ")"), "(" + "\n  ".join(many) + ")")

    def test_many_lists_eight_deep(self):
        self.assertEqual(set_text(80, "(" + nested(7) * 73 + ")"), "(" + "\n  ".join([nested(7)] * 73) + ")")
        text = "(" + nested(7, "aa bb") * 56 + ")"
        broken = "(((((((aa\n" + " " * 10 + "bb)))))))"
        self.assertEqual(set_text(21, text), "(" + "\n  ".join([nested(7, "aa bb")] * 55 + [broken]) + ")")
        self.assertEqual(set_text(20, text), "(" + "\n  ".join([nested(7, "aa bb")] + [broken] * 55) + ")")

    def test_as_many_columns_as_there_are(self):
        text = "".join("(" + "w" * (2 ** level) + " " for level in range(7)) + words(200) + ")" * 7
        for width in (1, 20, 60, 100, 140, 200):
            answer = set_text(width, text)
            self.assertEqual(parsed(answer), parsed(text))
            beyond, lines = measured(answer, width)
            self.assertEqual(se_cost(width, row(text)), [1, beyond, lines])


class HowItIsCalled(unittest.TestCase):
    texts = ("a", '"a"', '("a\\"" (b c) (d (e f)))', "()", "", "(", nested(8), nested(9), words(511), words(512),
             " " * 4097, large_text("a" * 10))
    widths = (0, 1, 10, 200, 201, GREATEST)

    def calls(self):
        return itertools.product(self.widths, self.texts)

    def test_form(self):
        for width, text in self.calls():
            answer = se_set(width, row(text))
            self.assertIs(type(answer), list)
            self.assertTrue(all(type(number) is int for number in answer))
            if answer[0] == 0:
                self.assertEqual(len(answer), 2)
                self.assertLess(answer[1], 0)
            else:
                self.assertEqual((answer[0], answer[1]), (2, len(answer) - 2))

    def test_what_is_handed_in_is_not_changed(self):
        for width, text in self.calls():
            handed = Watched(row(text))
            self.assertEqual(se_set(width, handed), se_set(width, row(text)))
            self.assertEqual(list(handed), row(text))

    def test_too_long_is_not_looked_at(self):
        for width in self.widths:
            for many in (4097, 5000):
                self.assertEqual(se_set(width, Unseen([97] * many)), TOO_MUCH)

    def test_nothing_is_kept(self):
        calls = list(self.calls())
        first = [se_set(width, row(text)) for width, text in calls]
        self.assertEqual([se_set(width, row(text)) for width, text in calls], first)
        again = [se_set(width, row(text)) for width, text in reversed(calls)]
        self.assertEqual(again, first[::-1])

    def test_the_same_list_in_several_widths_and_calls(self):
        handed = row("(a (b c) (d e))")
        first = [(se_cost(width, handed), se_set(width, handed)) for width in range(1, 20)]
        again = [(se_cost(width, handed), se_set(width, handed)) for width in reversed(range(1, 20))]
        self.assertEqual(again, first[::-1])
        self.assertEqual((se_read(handed), se_same(handed, handed)), ([0, 8], [0, 1]))

    def test_each_answer_is_a_list_of_its_own(self):
        for text in ("a", "(a b)"):
            handed = row(text)
            answer = se_set(3, handed)
            expected = list(answer)
            answer[2] = 0
            answer.append(5)
            self.assertEqual(se_set(3, handed), expected)
            self.assertEqual(handed, row(text))


if __name__ == "__main__":
    unittest.main()
