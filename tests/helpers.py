"""What the tests of several calls need."""

import functools
import itertools
import random
import re

BAD_WIDTH = [0, -22]
TOO_MUCH = [0, -28]
NO_VALUE = [0, -71]


def row(text):
    return list(text.encode("latin-1"))


def nested(depth, inner=""):
    return "(" * depth + inner + ")" * depth


def words(many):
    """A list of that many words: one value more than words."""
    return "(" + " ".join(["a"] * many) + ")"


class Watched(list):
    """A list that may be looked at, but not changed, not for a while either."""

    def refuse(self, *args, **kwargs):
        raise AssertionError("what was handed in was changed")

    __setitem__ = __delitem__ = __iadd__ = __imul__ = refuse
    append = extend = insert = pop = remove = clear = sort = reverse = refuse


class Unseen(Watched):
    """A list of which nothing but its length may be asked."""

    def look(self, *args, **kwargs):
        raise AssertionError("a text that is too long was looked at")

    __getitem__ = __iter__ = __contains__ = __reversed__ = look
    copy = index = count = look


# Below a value is a text (a word or a string) or a tuple of values (a list).


def parsed(text):
    """The value of a good text."""
    parts = re.findall(r'[()]|"(?:[^"\\]|\\.)*"|[^()" \n]+', text)

    def next_value():
        part = parts.pop(0)
        if part != "(":
            return part
        inner = []
        while parts[0] != ")":
            inner.append(next_value())
        parts.pop(0)
        return tuple(inner)

    return next_value()


def flat(value):
    return value if isinstance(value, str) else "(" + " ".join(map(flat, value)) + ")"


def all_ways(value, column=0):
    """Each way to set out value at column, written out: flat, beside, below, then by its values in their order."""
    if isinstance(value, str):
        return [value]
    found = [flat(value)]
    if len(value) > 1 and isinstance(value[0], str):
        before = "(" + value[0] + " "
        at = column + len(before)
        found += joined(before, at, [all_ways(each, at) for each in value[1:]])
    if value:
        first = all_ways(value[0], column + 1)
        found += joined("(", column + 2, [first] + [all_ways(each, column + 2) for each in value[1:]])
    return found


def joined(before, column, ways_of_each):
    """Each choice of ways, one value a line."""
    return [before + ("\n" + " " * column).join(ways) + ")" for ways in itertools.product(*ways_of_each)]


def measured(text, width):
    """What a text costs: bytes beyond the width over all its lines, and lines."""
    lines = text.split("\n")
    return (sum(max(0, len(line) - width) for line in lines), len(lines))


@functools.cache
def small_values(nodes, leaves):
    """Each value of that many values, lists counted, with these words and strings."""
    lists = tuple(tuple(each) for each in small_rows(nodes - 1, leaves))
    return lists + leaves if nodes == 1 else lists


def small_rows(nodes, leaves):
    """Each row of values with that many in all."""
    if nodes == 0:
        return ((),)
    return tuple((first,) + rest
                 for many in range(1, nodes + 1)
                 for first in small_values(many, leaves)
                 for rest in small_rows(nodes - many, leaves))


def drawn_value(seed, most_lists, depth=8):
    """A value with a few lists and words and strings of many lengths, the same one for each seed."""
    draw = random.Random(seed)
    left = [most_lists - 1]

    def leaf():
        if draw.randrange(4):
            return "w" * draw.choice((1, 1, 2, 3, 4, 7, 12, 20))
        return '"' + "".join(draw.choices(("s", " ", "(", '\\"', "\\\\"), k=draw.randrange(12))) + '"'

    def inner(deep):
        row = []
        for each in range(draw.choice((0, 1, 2, 2, 3, 3, 4, 6))):
            if deep < depth and left[0] > 0 and draw.randrange(2):
                left[0] -= 1
                row.append(inner(deep + 1))
            else:
                row.append(leaf())
        return tuple(row)

    return inner(1)
