"""The calls of setwidth: texts are lists of bytes, answers are lists of whole numbers."""

BAD_WIDTH = -22
TOO_MUCH = -28
NO_VALUE = -71

MOST_BYTES = 4096
MOST_VALUES = 512
MOST_DEEP = 8
MOST_IN_WORD = 64
MOST_IN_STRING = 64
MOST_WIDE = 200
MOST_SET = 65536

NEWLINE = 10
SPACE = 32
QUOTE = 34
OPENING = 40
CLOSING = 41
BACKSLASH = 92
LAST_PRINTED = 126

# The ways to set out a list: of those that cost the same the least number is taken.
FLAT = 0
BESIDE = 1
BELOW = 2


class Value:
    """A word, a string or a list."""

    def __init__(self, flat, inner):
        # All its bytes on one line; the values in it, None for a word or a string.
        self.flat = flat
        self.inner = inner
        # The way taken by column: else a deep list would be gone through anew for each way of each list round it.
        self.known = {}


def se_read(t):
    """How many values the text t has, lists counted, or why it is refused."""
    return [0, read_answer(t)]


def se_same(t, u):
    """1 if the texts t and u have the same value, 0 if not, or why one of them is refused."""
    for text in (t, u):
        answer = read_answer(text)
        if answer < 0:
            return [0, answer]
    # Gaps are no parts, and strings keep their quotes: equal parts are equal values, and no others are.
    return [0, 1 if parts_of(t) == parts_of(u) else 0]


def se_cost(width, t):
    """What the way that is taken for the text t costs in that width, or why it is refused."""
    refusal = refusal_of(width, t)
    if refusal < 0:
        return [0, refusal]
    taken = way_taken(value_of(parts_of(t)), 0, 0, width)
    return [1, taken[0], taken[1]]


def se_set(width, t):
    """The text t, set out in the way that is taken in that width, or why it is refused."""
    refusal = refusal_of(width, t)
    if refusal < 0:
        return [0, refusal]
    text = set_out(value_of(parts_of(t)), 0, 0, width)
    if len(text) > MOST_SET:
        return [0, TOO_MUCH]
    return [2, len(text)] + text


def refusal_of(width, t):
    """Why t can't be set out in that width; 0 if it can."""
    answer = read_answer(t)
    if answer < 0:
        return answer
    if width < 1 or width > MOST_WIDE:
        return BAD_WIDTH
    return 0


def read_answer(t):
    """The number that se_read answers."""
    if len(t) > MOST_BYTES:
        return TOO_MUCH
    parts = parts_of(t)
    if parts is None or not is_one_value(parts):
        return NO_VALUE
    # Only now: a text that is no value is refused as such, however many values stand in it.
    values = count_values(parts)
    if values > MOST_VALUES:
        return TOO_MUCH
    return values


def parts_of(t):
    """The brackets, words and strings of t in their order, each a list of its bytes; None if t has anything else."""
    parts = []
    place = 0
    while place < len(t):
        if is_gap(t[place]):
            place += 1
        else:
            end = part_end(t, place)
            if end is None:
                return None
            parts.append(t[place:end])
            place = end
    return parts


def part_end(t, start):
    """The place behind the bracket, word or string that begins at start; None if none does."""
    if is_bracket(t[start]):
        return start + 1
    end = string_end(t, start) if t[start] == QUOTE else word_end(t, start)
    if end is None or not is_parted(t, end):
        return None
    return end


def word_end(t, start):
    """The place behind the word that begins at start; None if none does."""
    end = start
    while end < len(t) and is_word_byte(t[end]):
        end += 1
    if end == start or end - start > MOST_IN_WORD:
        return None
    return end


def string_end(t, start):
    """The place behind the string whose first quote is at start; None if it is no string."""
    place = start + 1
    counted = 0
    while place < len(t) and t[place] != QUOTE:
        behind = string_byte_end(t, place)
        if behind is None:
            return None
        place = behind
        counted += 1
    if place == len(t) or counted > MOST_IN_STRING:
        return None
    return place + 1


def string_byte_end(t, place):
    """The place behind one counted byte of a string, a backslash before it passed over; None if it may not stand."""
    if t[place] == BACKSLASH:
        if place + 1 < len(t) and t[place + 1] in (QUOTE, BACKSLASH):
            return place + 2
        return None
    if SPACE <= t[place] <= LAST_PRINTED:
        return place + 1
    return None


def is_parted(t, end):
    """Whether a word or string that ends before end is kept apart from what comes next."""
    return end == len(t) or is_gap(t[end]) or is_bracket(t[end])


def is_gap(byte):
    return byte in (SPACE, NEWLINE)


def is_bracket(byte):
    return byte in (OPENING, CLOSING)


def is_word_byte(byte):
    return SPACE < byte <= LAST_PRINTED and byte != QUOTE and not is_bracket(byte)


def is_one_value(parts):
    """Whether parts are one value, no list of it too deep."""
    depth = 0
    ended = False
    for part in parts:
        # Once the outermost value has ended nothing may come behind it, a closing bracket neither.
        if ended:
            return False
        if part[0] == OPENING:
            depth += 1
        elif part[0] == CLOSING:
            depth -= 1
        if depth < 0 or depth > MOST_DEEP:
            return False
        ended = depth == 0
    return ended


def count_values(parts):
    """How many values parts have: each part but a closing bracket begins one."""
    return len([part for part in parts if part[0] != CLOSING])


def value_of(parts):
    """The one value that parts are."""
    # The values so far of each list that isn't closed yet; the first of these is round the whole.
    lists = [[]]
    for part in parts:
        if part[0] == OPENING:
            lists.append([])
        elif part[0] == CLOSING:
            inner = lists.pop()
            lists[-1].append(Value(flat_list(inner), inner))
        else:
            lists[-1].append(Value(part, None))
    return lists[0][0]


def flat_list(inner):
    """The bytes of a list of these values, flat."""
    flat = [OPENING]
    for value in inner:
        if len(flat) > 1:
            flat.append(SPACE)
        flat.extend(value.flat)
    flat.append(CLOSING)
    return flat


def way_taken(value, column, behind, width):
    """What the way that is taken for value at column costs, and which it is: (beyond, lines, way).

    Told are the lines that end in it or with it, each in its whole length from column 0 on; behind is how many
    closing brackets follow on its last line.
    """
    flat = (max(0, column + len(value.flat) + behind - width), 1, FLAT)
    # Nothing is cheaper than one line within the width; without values in it there is no other way.
    if flat[0] == 0 or not value.inner:
        return flat
    # By column alone: behind and width are the same each time value is asked for.
    if column not in value.known:
        spread = [spread_cost(value, column, behind, width, way) for way in ways_over_lines(value)]
        value.known[column] = min([flat] + spread)
    return value.known[column]


def ways_over_lines(value):
    """The ways but flat that a list with values in it may be set out in."""
    if len(value.inner) > 1 and value.inner[0].inner is None:
        return (BESIDE, BELOW)
    return (BELOW,)


def spread_cost(value, column, behind, width, way):
    """What a list costs beside or below, its values each in the way that is taken for it."""
    beyond = 0
    lines = 0
    for inner, inner_column, inner_behind in places_in(value, column, behind, way):
        taken = way_taken(inner, inner_column, inner_behind, width)
        beyond += taken[0]
        lines += taken[1]
    return (beyond, lines, way)


def places_in(value, column, behind, way):
    """The values that end a line in a list beside or below: (value, its column, closing brackets behind it)."""
    ending = value.inner
    columns = [column + 1] + [column + 2] * (len(ending) - 1)
    if way == BESIDE:
        # The first stands on the second one's line, which counts it by its column.
        ending = value.inner[1:]
        columns = [column + 1 + len(value.inner[0].flat) + 1] * len(ending)
    behinds = [0] * (len(ending) - 1) + [behind + 1]
    return list(zip(ending, columns, behinds))


def set_out(value, column, behind, width):
    """The bytes of value at column in the way that is taken, without those behind it."""
    way = way_taken(value, column, behind, width)[2]
    if way == FLAT:
        return value.flat
    text = [OPENING]
    if way == BESIDE:
        text.extend(value.inner[0].flat)
        text.append(SPACE)
    start = len(text)
    for inner, inner_column, inner_behind in places_in(value, column, behind, way):
        if len(text) > start:
            text.append(NEWLINE)
            text.extend([SPACE] * inner_column)
        text.extend(set_out(inner, inner_column, inner_behind, width))
    text.append(CLOSING)
    return text
