"""Promise 3: se_cost."""

import itertools
import unittest

from helpers import (BAD_WIDTH, NO_VALUE, TOO_MUCH, Unseen, Watched, all_ways, drawn_value, flat, measured, nested,
                     parsed, row, small_values, words)
from setwidth.desk import se_cost

GREATEST = 9223372036854775807


class CostCase(unittest.TestCase):
    def costs(self, width, text, beyond, lines):
        self.assertEqual(se_cost(width, row(text)), [1, beyond, lines], (width, text))

    def cheapest(self, width, *lines):
        """The lines are a way to set out their value, none is cheaper, and se_cost answers what they cost."""
        text = "\n".join(lines)
        ways = all_ways(parsed(text))
        self.assertIn(text, ways)
        cost = measured(text, width)
        self.assertEqual(cost, min(measured(way, width) for way in ways), text)
        self.costs(width, text, cost[0], cost[1])


class WordsAndStrings(CostCase):
    def test_word(self):
        self.costs(1, "a", 0, 1)
        self.costs(5, "word", 0, 1)
        self.costs(4, "word", 0, 1)
        self.costs(3, "word", 1, 1)
        self.costs(1, "word", 3, 1)
        self.costs(200, "w" * 64, 0, 1)
        self.costs(10, "w" * 64, 54, 1)
        self.costs(1, "w" * 64, 63, 1)

    def test_string_with_its_quotes(self):
        self.costs(2, '""', 0, 1)
        self.costs(1, '""', 1, 1)
        self.costs(7, '"a b c"', 0, 1)
        self.costs(6, '"a b c"', 1, 1)
        self.costs(66, '"' + "s" * 64 + '"', 0, 1)
        self.costs(65, '"' + "s" * 64 + '"', 1, 1)

    def test_backslashes_are_bytes_of_the_line(self):
        self.costs(4, '"\\""', 0, 1)
        self.costs(3, '"\\""', 1, 1)
        self.costs(130, '"' + "\\\\" * 64 + '"', 0, 1)
        self.costs(100, '"' + "\\\\" * 64 + '"', 30, 1)

    def test_gaps_of_the_text_cost_nothing(self):
        self.costs(1, "  \n a \n", 0, 1)
        self.costs(5, "(a\n\n\n b)", 0, 1)
        self.costs(7, "(()(  \n))", 0, 1)
        self.costs(9, "(a(b)c)", 0, 1)


class FlatLists(CostCase):
    def test_that_fit(self):
        self.costs(200, "(a b c)", 0, 1)
        self.costs(200, '(a (b "c") ((d)))', 0, 1)

    def test_that_fit_just_so(self):
        self.costs(7, "(a b c)", 0, 1)
        self.costs(11, "(a (b (c)))", 0, 1)
        self.costs(200, "(" + " ".join(["w" * 49] * 3 + ["v" * 48]) + ")", 0, 1)

    def test_one_byte_too_wide(self):
        self.costs(6, "(a b c)", 0, 2)
        self.costs(4, "(a b)", 0, 2)
        self.costs(200, "(" + " ".join(["w" * 49] * 4) + ")", 0, 3)

    def test_of_one_value_has_no_narrower_way(self):
        self.costs(3, "(a)", 0, 1)
        self.costs(2, "(a)", 1, 1)
        self.costs(1, "(a)", 2, 1)


class OverLines(CostCase):
    def test_below(self):
        self.cheapest(12, "(longer-word", "  aaaa", "  bbbb)")
        self.cheapest(9, "((aa bb)", "  cc", "  dd)")

    def test_beside(self):
        self.cheapest(9, "(if aaaa", "    bbbb)")
        self.cheapest(9, "(if aaaa", "    bbbb", "    cccc)")
        self.cheapest(8, '("s" aa', "     bb)")

    def test_beside_where_it_goes_no_farther_over_the_edge(self):
        self.cheapest(8, "(w aaaaa", "   bbbb)")
        # Beside the last line would have 9 bytes.
        self.cheapest(8, "(w", "  aaaaa", "  bbbbb)")

    def test_below_in_beside(self):
        self.cheapest(14, "(let ((aaa bb)", "       ccc)", "     dd)")

    def test_beside_in_below(self):
        self.cheapest(10, "(long-word", "  (f aaaa", "     bbb)", "  c)")

    def test_flat_in_below(self):
        self.cheapest(9, "((a b)", "  (c d)", "  (e f))")

    def test_flat_in_beside(self):
        self.cheapest(9, "(if (a b)", "    (c)", "    d)")

    def test_inner_ways_that_differ_from_one_another(self):
        self.cheapest(13, "(do (a b)", "    (cc dddd", "        eee)", "    ((f g)", "      hhhhh))")

    def test_fewer_beyond_comes_before_fewer_lines(self):
        self.cheapest(5, "(aaaa", "  b", "  c", "  d)")
        self.cheapest(5, "(a b", "   c", "   d)")
        self.cheapest(6, "(w", "  (x", "    y)", "  z)")

    def test_over_the_edge_anyway(self):
        self.cheapest(4, "(aaaaaa", "  b)")
        self.cheapest(4, "(b", "  aaaaaa", "  b)")
        self.cheapest(6, "(a", "  (bbbbbbbbbb", "    c", "    d)", "  e)")


class Corners(CostCase):
    def test_empty_list(self):
        self.costs(200, "()", 0, 1)
        self.costs(2, "()", 0, 1)
        self.costs(1, "()", 1, 1)
        self.costs(1, "( \n )", 1, 1)

    def test_list_in_list_in_list_each_alone(self):
        for width in range(1, 10):
            self.costs(width, "((()))", max(0, 6 - width), 1)
            self.costs(width, "(((a)))", max(0, 7 - width), 1)
        self.cheapest(6, "(((a", "    b)))")
        self.cheapest(8, "(((a", "    b", "    c)))")
        self.cheapest(9, "(((a b", "     c)))")

    def test_string_as_wide_as_the_width(self):
        self.costs(6, '"abcd"', 0, 1)
        # Within a list it stands one column or more to the right, and the bracket follows.
        self.costs(6, '("abcd")', 2, 1)
        self.cheapest(6, '("abcd"', "  a)")
        self.cheapest(6, "(a", '  "abcd"', "  b)")

    def test_closing_brackets_alone_go_over_the_edge(self):
        self.costs(5, "(aaaa)", 1, 1)
        self.costs(5, "((((a))))", 4, 1)
        # The last word ends at the edge; the brackets behind it don't fit, whatever is done.
        self.cheapest(5, "(a", "  bbb)")
        self.cheapest(6, "((a", "   bbb))")
        # Beside, the brackets go over the edge; below they don't.
        self.cheapest(7, "(a", "  (b", "    c))")
        # Flat, it's the last bracket alone that goes over the edge.
        self.cheapest(9, "(aa", "  (b c))")
        self.cheapest(4, "(a", "  b)")

    def test_width_one(self):
        self.costs(1, "a", 0, 1)
        # (a b) has 5 bytes; below its lines have 2 and 4: 1 and 3 beyond.
        self.costs(1, "(a b)", 4, 1)
        self.costs(1, "(a b c)", 6, 1)
        self.costs(1, "((a) b)", 6, 1)
        # One line more saves a space and the one byte that fits, and brings two spaces or more: flat is the cheapest.
        for seed in range(50):
            text = flat(drawn_value(seed, 20))
            self.costs(1, text, len(text) - 1, 1)
        self.costs(2, "(aaa b)", 4, 2)

    def test_eight_deep(self):
        self.costs(200, nested(8), 0, 1)
        self.costs(16, nested(8), 0, 1)
        self.costs(15, nested(8), 1, 1)
        self.costs(1, nested(8), 15, 1)
        self.costs(17, nested(8, "a"), 0, 1)
        self.cheapest(17, "((((((((a", "         b))))))))")
        self.cheapest(31, "(a (b (c (d (e (f (g (h))))))))")
        self.cheapest(30, "(a (b", "     (c (d (e (f (g (h))))))))")
        self.cheapest(15, "(a", "  (b", "    (c", "      (d", "        (e", "          (f", "            (g",
                      "              (h))))))))")

    def test_first_value_is_a_list(self):
        self.cheapest(6, "((a)", "  bb)")
        self.cheapest(6, "(()", "  bbb)")
        # No line is saved by putting the second value beside the first: that is open to words and strings alone.
        self.cheapest(8, "((a)", "  bbb", "  c)")
        self.cheapest(8, "(aaa bbb", "     c)")
        self.cheapest(7, "(aaa", "  bbb", "  c)")
        self.cheapest(8, "(()", "  bbb", "  ccc)")
        self.cheapest(8, '("" bbb', "    ccc)")

    def test_two_ways_that_cost_the_same(self):
        for width, text in ((9, "(aa (b c))"), (5, "(a b)"), (2, "(aaa)"), (9, "(w (a b) (c d))"), (8, "((a b) (c))")):
            ways = all_ways(parsed(text))
            costs = [measured(way, width) for way in ways]
            least = min(costs)
            self.assertGreater(costs.count(least), 1, (width, text))
            self.costs(width, text, least[0], least[1])
        # As many beyond, but one line against two.
        self.costs(1, "(a b)", 4, 1)


class NoWayIsCheaper(unittest.TestCase):
    """Against all ways, each written out and its lines measured."""

    def compare(self, value, widths):
        ways = all_ways(value)
        text = row(flat(value))
        for width in widths:
            least = min(measured(way, width) for way in ways)
            self.assertEqual(se_cost(width, text), [1, least[0], least[1]], (width, flat(value)))

    def test_all_small_values(self):
        for nodes in range(1, 7):
            for value in small_values(nodes, ("a", "bbb")):
                self.compare(value, range(1, len(flat(value)) + 2))

    def test_all_small_values_with_longer_leaves(self):
        for nodes in range(1, 6):
            for value in small_values(nodes, ("a", '"s t"', "wwwwwwwww")):
                self.compare(value, range(1, len(flat(value)) + 2))

    def test_values_with_several_lists(self):
        for seed in range(300):
            value = drawn_value(seed, 8)
            whole = len(flat(value))
            widths = {1, 2, 3, 5, 8, 10, 12, 14, 16, 20, 25, 30, 40, 50, whole - 2, whole - 1, whole, whole + 1}
            self.compare(value, [width for width in sorted(widths) if 1 <= width <= 200])

    def test_a_list_in_each_list(self):
        for lengths in itertools.product((1, 4), repeat=4):
            value = ("z",)
            for length in lengths:
                value = ("w" * length, value, "v" * length)
            self.compare(value, range(1, len(flat(value)) + 2))

    def test_eight_deep(self):
        for wide in (1, 2, 5):
            first, last = ("a", "b"), ("b", "a")
            for level in range(7):
                first = (first, "w" * wide)
                last = ("w" * wide, last)
            self.compare(first, range(1, len(flat(first)) + 2))
            self.compare(last, range(1, len(flat(last)) + 2, 3))


class GreaterWidth(unittest.TestCase):
    def never_dearer(self, text, widths):
        costs = [se_cost(width, row(text)) for width in widths]
        self.assertEqual([cost[0] for cost in costs], [1] * len(costs))
        self.assertEqual(costs, sorted(costs, reverse=True), text)

    def test_drawn_values(self):
        for seed in range(1000, 1100):
            self.never_dearer(flat(drawn_value(seed, 30)), range(1, 201))

    def test_many_words(self):
        self.never_dearer(words(511), range(1, 201, 9))
        self.never_dearer("(" + " ".join(["word"] * 100) + " (" + " ".join(["w"] * 60) + "))", range(1, 201))


class Refusals(CostCase):
    refused = {" " * 4097: TOO_MUCH, "(" * 5000: TOO_MUCH, "": NO_VALUE, "(": NO_VALUE, "a b": NO_VALUE, '"': NO_VALUE,
               "w" * 65: NO_VALUE, nested(9): NO_VALUE, "\0": NO_VALUE, "\xff": NO_VALUE, words(512): TOO_MUCH}

    def test_of_the_text(self):
        for text, refusal in self.refused.items():
            for width in (1, 80, 200):
                self.assertEqual(se_cost(width, row(text)), refusal)

    def test_of_the_text_ahead_of_the_width(self):
        for text, refusal in self.refused.items():
            for width in (0, 201, GREATEST):
                self.assertEqual(se_cost(width, row(text)), refusal)

    def test_of_the_width(self):
        for text in ("a", "()", "(a b)", nested(8), words(511)):
            for width in (0, 201, 202, 255, 256, 257, 456, 65537, 2 ** 32 + 1, GREATEST - 1, GREATEST):
                self.assertEqual(se_cost(width, row(text)), BAD_WIDTH)

    def test_widths_at_the_edge(self):
        self.costs(1, "aa", 1, 1)
        self.costs(200, "aa", 0, 1)
        self.costs(199, words(100), 0, 99)
        self.costs(200, words(100), 0, 99)
        self.costs(199, words(99), 0, 1)

    def test_each_width(self):
        for width in range(301):
            expected = [1, max(0, 64 - width), 1] if 1 <= width <= 200 else BAD_WIDTH
            self.assertEqual(se_cost(width, row("w" * 64)), expected)

    def test_a_text_too_long_when_set_out_still_has_a_cost(self):
        text = "(" + "w" * 64 + " (" + "w" * 64 + " " + words(500) + "))"
        self.costs(200, text, 0, 499)


class LargeTexts(CostCase):
    def test_many_words(self):
        # Beside: one line less than words.
        self.costs(200, words(511), 0, 510)
        self.costs(5, words(511), 0, 510)
        # Below: the first word has a line of its own; the last line has 4 bytes.
        self.costs(4, words(511), 0, 511)
        # Flat: as many beyond as below, in one line.
        self.costs(1, words(511), 1022, 1)

    def test_many_empty_lists(self):
        # The first is a list: below alone.
        self.costs(200, "(" + "()" * 511 + ")", 0, 511)
        self.costs(4, "(" + "()" * 511 + ")", 1, 511)
        self.costs(3, "(" + "()" * 511 + ")", 509 + 2, 511)

    def test_longest_words(self):
        text = "(" + " ".join(["w" * 64] * 62) + ")"
        # Beside: 130 bytes a line, but 131 the last.
        self.costs(131, text, 0, 61)
        # Below: 66 bytes a line, but 65 the first and 67 the last.
        self.costs(130, text, 0, 62)
        self.costs(67, text, 0, 62)
        self.costs(66, text, 1, 62)
        self.costs(2, text, 63 + 60 * 64 + 65, 62)
        self.costs(1, text, len(text) - 1, 1)

    def test_longest_strings(self):
        string = '"' + '\\"' * 64 + '"'
        text = "(" + " ".join([string] * 31) + ")"
        self.costs(200, text, 0, 31)
        self.costs(133, text, 0, 31)
        self.costs(130, text, 1 + 29 * 2 + 3, 31)

    def test_many_lists_eight_deep(self):
        text = "(" + nested(7) * 73 + ")"
        # Below: 16 bytes a line, but 15 the first and 17 the last.
        self.costs(200, text, 0, 73)
        self.costs(17, text, 0, 73)
        self.costs(16, text, 1, 73)
        self.costs(15, text, 71 + 2, 73)

    def test_many_lists_of_words_eight_deep(self):
        text = "(" + nested(7, "aa bb") * 56 + ")"
        # Flat, an inner list has 19 bytes; over two lines it has 9, and 17 with the spaces on the second.
        self.costs(22, text, 0, 56)
        self.costs(21, text, 0, 57)
        self.costs(20, text, 0, 111)
        self.costs(19, text, 1, 112)
        self.costs(18, text, 54 + 2, 112)

    def test_as_many_columns_as_there_are(self):
        # Each list may stand beside or below; no two choices lead to the same column.
        text = "".join("(" + "w" * (2 ** level) + " " for level in range(7)) + words(490) + ")" * 7
        costs = [se_cost(width, row(text)) for width in (1, 20, 60, 100, 140, 200)]
        self.assertEqual(costs[0], [1, len(text) - 1, 1])
        self.assertEqual(costs[-1], [1, 0, 489])
        self.assertEqual(costs, sorted(costs, reverse=True))


class HowItIsCalled(unittest.TestCase):
    texts = ("a", '"a"', '("a\\"" (b c) (d (e f)))', "()", "", "(", nested(8), nested(9), words(511), words(512),
             " " * 4097)
    widths = (0, 1, 10, 200, 201, GREATEST)

    def calls(self):
        return itertools.product(self.widths, self.texts)

    def test_form(self):
        for width, text in self.calls():
            answer = se_cost(width, row(text))
            self.assertIs(type(answer), list)
            self.assertTrue(all(type(number) is int for number in answer))
            if answer[0] == 0:
                self.assertEqual(len(answer), 2)
                self.assertLess(answer[1], 0)
            else:
                self.assertEqual((answer[0], len(answer)), (1, 3))
                self.assertGreaterEqual(answer[1], 0)
                self.assertGreaterEqual(answer[2], 1)

    def test_what_is_handed_in_is_not_changed(self):
        for width, text in self.calls():
            handed = Watched(row(text))
            self.assertEqual(se_cost(width, handed), se_cost(width, row(text)))
            self.assertEqual(list(handed), row(text))

    def test_too_long_is_not_looked_at(self):
        for width in self.widths:
            for many in (4097, 5000):
                self.assertEqual(se_cost(width, Unseen([97] * many)), TOO_MUCH)

    def test_nothing_is_kept(self):
        calls = list(self.calls())
        first = [se_cost(width, row(text)) for width, text in calls]
        self.assertEqual([se_cost(width, row(text)) for width, text in calls], first)
        again = [se_cost(width, row(text)) for width, text in reversed(calls)]
        self.assertEqual(again, first[::-1])

    def test_the_same_list_in_several_widths(self):
        handed = row("(a (b c) (d e))")
        first = [se_cost(width, handed) for width in range(1, 20)]
        self.assertEqual([se_cost(width, handed) for width in reversed(range(1, 20))], first[::-1])

    def test_each_answer_is_a_list_of_its_own(self):
        answer = se_cost(3, row("(a b)"))
        answer.append(5)
        self.assertEqual(se_cost(3, row("(a b)")), se_cost(3, row("(a b)")))
        self.assertEqual(len(se_cost(3, row("(a b)"))), 3)


if __name__ == "__main__":
    unittest.main()
