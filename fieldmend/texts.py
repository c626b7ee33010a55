"""The texts of worn charts and of rules: which lists of bytes are one, and where the others are at fault."""

LINE_END = 10
MISSING = 46
DIGIT_0 = 48
DIGIT_9 = 57

MOST_CHART_BYTES = 66048
MOST_RULE_BYTES = 256

WIDEST = 512
HIGHEST = 512
MOST_KNOTS = 65536

MOST_MOVES = 16
# A move's three numbers: the greatest that each may be, and the byte behind it.
MOVE_PARTS = ((7, 32), (511, 32), (511, 10))


def is_digit(byte):
    return DIGIT_0 <= byte <= DIGIT_9


def is_colour(byte):
    return 97 <= byte <= 122 or 65 <= byte <= 90 or is_digit(byte)


# The document numbers a to z, then A to Z, then 0 to 9: not as the bytes run.
def colour_number(byte):
    if byte >= 97:
        return byte - 97
    if byte >= 65:
        return 26 + byte - 65
    return 52 + byte - DIGIT_0


def is_knot(byte):
    return byte == MISSING or is_colour(byte)


def first_row_width(t):
    width = 0
    while width < WIDEST and width < len(t) and is_knot(t[width]):
        width += 1
    return width


def most_rows(width):
    return min(HIGHEST, MOST_KNOTS // width)


# The first row sets the width, so from there on each byte's place alone tells
# whether a knot or a row's end has to stand there.
def chart_reach(t):
    width = first_row_width(t)
    if width == 0:
        return 0
    end = min(len(t), (width + 1) * most_rows(width))
    at = width
    while at < end and fits_row(t[at], at % (width + 1), width):
        at += 1
    return at


def fits_row(byte, column, width):
    return byte == LINE_END if column == width else is_knot(byte)


# None for a worn chart's text. What some chart's text begins with is a whole
# chart's text just where a row has ended; a chart has at least one row.
def chart_fault(t):
    reach = chart_reach(t)
    whole = reach == len(t) and reach > 0 and t[reach - 1] == LINE_END
    return None if whole else reach


# From here on charts' texts are without a fault.
def chart_width(t):
    return t.index(LINE_END)


def chart_height(t):
    return t.count(LINE_END)


def chart_knots(t):
    return [byte for byte in t if byte != LINE_END]


def chart_text(knots, width):
    t = []
    for start in range(0, len(knots), width):
        t.extend(knots[start:start + width])
        t.append(LINE_END)
    return t


# Every number up to the greatest may end where it is, so digits are taken for
# as long as the number stays within it; behind a leading 0 no digit may stand.
def number_end(r, start, greatest):
    at = start
    value = 0
    while at < len(r) and is_digit(r[at]):
        longer = value * 10 + r[at] - DIGIT_0
        if longer > greatest or (value == 0 and at > start):
            return at
        value = longer
        at += 1
    return at


def rule_reach(r):
    at = 0
    for move in range(MOST_MOVES):
        for greatest, mark in MOVE_PARTS:
            end = number_end(r, at, greatest)
            if end == at or end == len(r) or r[end] != mark:
                return end
            at = end + 1
    return at


# None for a rule's text. Unlike a chart's, a rule's text may be empty.
def rule_fault(r):
    reach = rule_reach(r)
    whole = reach == len(r) and (reach == 0 or r[reach - 1] == LINE_END)
    return None if whole else reach


# Behind each number stands one byte that is no digit, whichever it is.
def rule_moves(r):
    numbers = []
    value = 0
    for byte in r:
        if is_digit(byte):
            value = value * 10 + byte - DIGIT_0
        else:
            numbers.append(value)
            value = 0
    return [tuple(numbers[at:at + 3]) for at in range(0, len(numbers), 3)]
