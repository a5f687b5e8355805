"""The calls of setwidth: texts are lists of bytes, answers are lists of whole numbers."""

TOO_MUCH = -28
NO_VALUE = -71

MOST_BYTES = 4096
MOST_VALUES = 512
MOST_DEEP = 8
MOST_IN_WORD = 64
MOST_IN_STRING = 64

NEWLINE = 10
SPACE = 32
QUOTE = 34
OPENING = 40
CLOSING = 41
BACKSLASH = 92
LAST_PRINTED = 126


def se_read(t):
    """How many values the text t has, lists counted, or why it is refused."""
    return [0, read_answer(t)]


def se_same(t, u):
    """1 if the texts t and u have the same value, 0 if not, or why one of them is refused."""
    for text in (t, u):
        answer = read_answer(text)
        if answer < 0:
            return [0, answer]
    # Gaps are no parts, and strings keep their quotes: equal parts are equal values, and no others are.
    return [0, 1 if parts_of(t) == parts_of(u) else 0]


def read_answer(t):
    """The number that se_read answers."""
    if len(t) > MOST_BYTES:
        return TOO_MUCH
    parts = parts_of(t)
    if parts is None or not is_one_value(parts):
        return NO_VALUE
    # Only now: a text that is no value is refused as such, however many values stand in it.
    values = count_values(parts)
    if values > MOST_VALUES:
        return TOO_MUCH
    return values


def parts_of(t):
    """The brackets, words and strings of t in their order, each a list of its bytes; None if t has anything else."""
    parts = []
    place = 0
    while place < len(t):
        if is_gap(t[place]):
            place += 1
        else:
            end = part_end(t, place)
            if end is None:
                return None
            parts.append(t[place:end])
            place = end
    return parts


def part_end(t, start):
    """The place behind the bracket, word or string that begins at start; None if none does."""
    if is_bracket(t[start]):
        return start + 1
    end = string_end(t, start) if t[start] == QUOTE else word_end(t, start)
    if end is None or not is_parted(t, end):
        return None
    return end


def word_end(t, start):
    """The place behind the word that begins at start; None if none does."""
    end = start
    while end < len(t) and is_word_byte(t[end]):
        end += 1
    if end == start or end - start > MOST_IN_WORD:
        return None
    return end


def string_end(t, start):
    """The place behind the string whose first quote is at start; None if it is no string."""
    place = start + 1
    counted = 0
    while place < len(t) and t[place] != QUOTE:
        behind = string_byte_end(t, place)
        if behind is None:
            return None
        place = behind
        counted += 1
    if place == len(t) or counted > MOST_IN_STRING:
        return None
    return place + 1


def string_byte_end(t, place):
    """The place behind one counted byte of a string, a backslash before it passed over; None if it may not stand."""
    if t[place] == BACKSLASH:
        if place + 1 < len(t) and t[place + 1] in (QUOTE, BACKSLASH):
            return place + 2
        return None
    if SPACE <= t[place] <= LAST_PRINTED:
        return place + 1
    return None


def is_parted(t, end):
    """Whether a word or string that ends before end is kept apart from what comes next."""
    return end == len(t) or is_gap(t[end]) or is_bracket(t[end])


def is_gap(byte):
    return byte in (SPACE, NEWLINE)


def is_bracket(byte):
    return byte in (OPENING, CLOSING)


def is_word_byte(byte):
    return SPACE < byte <= LAST_PRINTED and byte != QUOTE and not is_bracket(byte)


def is_one_value(parts):
    """Whether parts are one value, no list of it too deep."""
    depth = 0
    ended = False
    for part in parts:
        # Once the outermost value has ended nothing may come behind it, a closing bracket neither.
        if ended:
            return False
        if part[0] == OPENING:
            depth += 1
        elif part[0] == CLOSING:
            depth -= 1
        if depth < 0 or depth > MOST_DEEP:
            return False
        ended = depth == 0
    return ended


def count_values(parts):
    """How many values parts have: each part but a closing bracket begins one."""
    return len([part for part in parts if part[0] != CLOSING])
