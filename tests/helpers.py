"""What the tests of several calls need."""

TOO_MUCH = [0, -28]
NO_VALUE = [0, -71]


def row(text):
    return list(text.encode("latin-1"))


def nested(depth, inner=""):
    return "(" * depth + inner + ")" * depth


def words(many):
    """A list of that many words: one value more than words."""
    return "(" + " ".join(["a"] * many) + ")"


class Watched(list):
    """A list that may be looked at, but not changed, not for a while either."""

    def refuse(self, *args, **kwargs):
        raise AssertionError("what was handed in was changed")

    __setitem__ = __delitem__ = __iadd__ = __imul__ = refuse
    append = extend = insert = pop = remove = clear = sort = reverse = refuse


class Unseen(Watched):
    """A list of which nothing but its length may be asked."""

    def look(self, *args, **kwargs):
        raise AssertionError("a text that is too long was looked at")

    __getitem__ = __iter__ = __contains__ = __reversed__ = look
    copy = index = count = look
