"""The calls: borders of a kind, with a strip L wide and h high, round a field W wide and H high."""

from rugborders.charts import FIRST_COLOUR, MOST_SIDE, chart_of, is_chart_size, is_side, is_too_long, text_of

SET = 0
MET = 1
RUN = 2

MOST_DEPTH = 128

# A row of borders tells each one's kind, length and depth.
NUMBERS_OF_BORDER = 3
MOST_NUMBERS = 48

OF_FIELD = 0
OF_STRIP = 1
OF_CORNER = 2


def fits(kind, L, h, W, H):
    """[1] if the border fits round the field, [0] if not, or the refusal."""
    if not in_bounds(kind, L, h, W, H):
        return [-1]
    if comes_out(kind, L, h, W, H):
        return [1]
    return [0]


def round_of(kind, t, s, c):
    """How many bytes the rug's text has, and they, or the refusal."""
    if is_too_long(t) or is_too_long(s) or is_too_long(c):
        return [-2]
    field = chart_of(t)
    strip = chart_of(s)
    # No bytes say that there is no corner; they are no wrong chart.
    corner_chart = chart_of(c) if c else []
    if field is None or strip is None or corner_chart is None:
        return [-6]
    refusal = round_refusal(kind, field, strip, corner_chart)
    if refusal < 0:
        return [refusal]
    return told_text(rug_of(kind, field, strip, corner_chart))


def from_of(kind, L, h, W, H, x, y):
    """0, of which chart knot (x, y) of the rug is and that one's x and y, or the refusal."""
    if not in_bounds(kind, L, h, W, H):
        return [-1]
    if not comes_out(kind, L, h, W, H):
        return [-3]
    if x >= W + 2 * h or y >= H + 2 * h:
        return [-4]
    return [0] + list(knot_of(kind, L, h, W, H, x, y))


def off(h, t):
    """How many bytes the text of the field within a depth of h has, and they, or the refusal."""
    read = read_rug(h, t)
    if read[0] < 0:
        return [read[0]]
    return told_text(field_within(h, read[1]))


def found(h, kind, t):
    """How many bytes the text of the shortest strip that makes the border has, and they, or the refusal."""
    read = read_rug(h, t)
    if read[0] < 0:
        return [read[0]]
    # Told as a depth out of bounds is, so that it may stand behind that.
    if kind > RUN:
        return [-1]
    return told_if_any(shortest_strip(kind, h, read[1]))


def corner(h, t):
    """How many bytes the text of the corner that makes all four has, and they, or the refusal."""
    read = read_rug(h, t)
    if read[0] < 0:
        return [read[0]]
    return told_if_any(gathered(OF_CORNER, h, SET, h, read[1]))


def sizes(p, q, W, H, borders):
    """0, the least width and the least height round which all the borders fit, or the refusal."""
    if len(borders) > MOST_NUMBERS:
        return [-2]
    if not is_side(p) or not is_side(q) or not is_side(W) or not is_side(H):
        return [-1]
    if not are_borders(borders):
        return [-1]
    W0 = least_side(p, W, borders)
    H0 = least_side(q, H, borders)
    if W0 is None or H0 is None:
        return [-5]
    return [0, W0, H0]


def told_text(chart):
    """How many bytes the chart's text has, and they."""
    text = text_of(chart)
    return [len(text)] + text


def told_if_any(chart):
    """How many bytes the chart's text has, and they, or the refusal if there is no chart."""
    if chart is None:
        return [-5]
    return told_text(chart)


def read_rug(h, t):
    """0 and the chart of a rug that can have a border of depth h, or the refusal and None."""
    if is_too_long(t):
        return (-2, None)
    rug = chart_of(t)
    if rug is None:
        return (-6, None)
    if not leaves_field(h, rug):
        return (-1, None)
    return (0, rug)


def is_depth(h):
    """Whether a border may be so deep."""
    return 1 <= h <= MOST_DEPTH


def is_border(kind, L, h):
    """Whether the kind, the length and the depth of a border are such as are answered."""
    return kind <= RUN and is_side(L) and is_depth(h)


def are_borders(numbers):
    """Whether the numbers are those of borders one behind another, none of them cut short."""
    if len(numbers) % NUMBERS_OF_BORDER != 0:
        return False
    for at in range(0, len(numbers), NUMBERS_OF_BORDER):
        if not is_border(numbers[at], numbers[at + 1], numbers[at + 2]):
            return False
    return True


def in_bounds(kind, L, h, W, H):
    """Whether the border and the field's sides are such as are answered."""
    return is_border(kind, L, h) and is_side(W) and is_side(H)


def comes_out(kind, L, h, W, H):
    """Whether whole strips come out along every side."""
    return comes_out_along(kind, L, h, W) and comes_out_along(kind, L, h, H)


def comes_out_along(kind, L, h, side):
    """Whether whole strips come out along a field's side."""
    if kind == SET:
        return side % L == 0
    if kind == MET:
        return (side + 2 * h) % (2 * L) == 0
    return (side + h) % L == 0


def least_side(step, least, borders):
    """The least side of a field, by its step and its least size, round which all the borders fit, or None."""
    for side in range(step, MOST_SIDE + 1, step):
        if side >= least and all_come_out(side, borders):
            return side
    return None


def all_come_out(side, borders):
    """Whether the borders fit along the side, each round what is within, and the whole is not too large."""
    whole = side
    for at in range(0, len(borders), NUMBERS_OF_BORDER):
        h = borders[at + 2]
        if not comes_out_along(borders[at], borders[at + 1], h, whole):
            return False
        whole += 2 * h
    return whole <= MOST_SIDE


def is_right_corner(kind, corner_chart, h):
    """Whether the corner (no rows if there is none) goes with the kind and the depth."""
    if kind != SET:
        return not corner_chart
    return len(corner_chart) == h and len(corner_chart[0]) == h


def leaves_field(h, rug):
    """Whether there can be a border of depth h in the rug, and a field within it."""
    return is_depth(h) and 2 * h < len(rug[0]) and 2 * h < len(rug)


def round_refusal(kind, field, strip, corner_chart):
    """The first refusal of charts that are right by themselves, or 0."""
    L = len(strip[0])
    h = len(strip)
    W = len(field[0])
    H = len(field)
    if not in_bounds(kind, L, h, W, H) or not is_right_corner(kind, corner_chart, h):
        return -1
    if not comes_out(kind, L, h, W, H):
        return -3
    if not is_chart_size(W + 2 * h, H + 2 * h):
        return -8
    return 0


def rug_of(kind, field, strip, corner_chart):
    """The chart of the field with the border round it."""
    L = len(strip[0])
    h = len(strip)
    W = len(field[0])
    H = len(field)
    # In the order of OF_FIELD, OF_STRIP and OF_CORNER.
    sources = (field, strip, corner_chart)
    rug = []
    for y in range(H + 2 * h):
        row = []
        for x in range(W + 2 * h):
            knot = knot_of(kind, L, h, W, H, x, y)
            row.append(sources[knot[0]][knot[2]][knot[1]])
        rug.append(row)
    return rug


def field_within(h, rug):
    """The chart of what is left of the rug without a border of depth h."""
    return [row[h:len(row) - h] for row in rug[h:len(rug) - h]]


def shortest_strip(kind, h, rug):
    """The chart of the shortest strip that makes the border of depth h in the rug, or None if none does."""
    W = len(rug[0]) - 2 * h
    H = len(rug) - 2 * h
    if kind == SET and gathered(OF_CORNER, h, kind, h, rug) is None:
        return None
    # A strip this long never begins anew on its way along a side.
    unwound = gathered(OF_STRIP, max(W, H) + 2 * h, kind, h, rug)
    if unwound is None:
        return None
    for L in range(1, MOST_SIDE + 1):
        if comes_out(kind, L, h, W, H):
            strip = folded(L, unwound)
            if strip is not None:
                return all_coloured(strip)
    return None


def gathered(source, width, kind, h, rug):
    """The strip or the corner, so wide, that makes all of the rug's knots that are of it, or None if none does.

    A knot of it that no knot of the rug is stays None.
    """
    W = len(rug[0]) - 2 * h
    H = len(rug) - 2 * h
    chart = [[None] * width for row in range(h)]
    for y, row in enumerate(rug):
        for x, colour in enumerate(row):
            knot = knot_of(kind, width, h, W, H, x, y)
            if knot[0] == source and not takes_colour(chart[knot[2]], knot[1], colour):
                return None
    return chart


def folded(L, unwound):
    """The strip L wide that comes to the unwound one when it begins anew again and again, or None if none does."""
    strip = []
    for unwound_row in unwound:
        row = [None] * L
        for i, colour in enumerate(unwound_row):
            if colour is not None and not takes_colour(row, i % L, colour):
                return None
        strip.append(row)
    return strip


def takes_colour(row, x, colour):
    """Whether the row's knot x, which gets the colour if it has none yet, is of that colour."""
    if row[x] is None:
        row[x] = colour
    return row[x] == colour


def all_coloured(strip):
    """The strip with the first colour where none is known."""
    coloured = []
    for row in strip:
        coloured.append([FIRST_COLOUR if colour is None else colour for colour in row])
    return coloured


def knot_of(kind, L, h, W, H, x, y):
    """What knot (x, y) of the rug is: of which chart, and that one's x and y."""
    if h <= x < W + h and h <= y < H + h:
        return (OF_FIELD, x - h, y - h)
    if kind == MET:
        u = min(x, W + 2 * h - 1 - x)
        v = min(y, H + 2 * h - 1 - y)
        return (OF_STRIP, max(u, v) % L, min(u, v))
    seen = seen_from_side(h, W, H, x, y)
    along = seen[0]
    inward = seen[1]
    if kind == RUN:
        return (OF_STRIP, along % L, inward)
    if along < h:
        return (OF_CORNER, along, inward)
    return (OF_STRIP, (along - h) % L, inward)


def seen_from_side(h, W, H, x, y):
    """How far along its side, clockwise, and how far inward a knot of the border lies.

    Each side has the corner it begins with and not the one it ends at. So a
    run border's strips do not overlap, and a set border's corner, seen from
    the side it begins, is the corner chart as it is: the corners' motions are
    those of the sides.
    """
    wide = W + 2 * h
    high = H + 2 * h
    if x < W + h and y < h:
        return (x, y)
    if x >= W + h and y < H + h:
        return (y, wide - 1 - x)
    if x >= h and y >= H + h:
        return (wide - 1 - x, high - 1 - y)
    return (high - 1 - y, x)
