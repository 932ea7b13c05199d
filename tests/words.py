"""The document's words, put down a second time and as they stand, for the tests to hold the program against."""

COLOURS = [ord(sign) for sign in "abcdefghijklmnopqrstuvwxyzABCDEFGHIJKLMNOPQRSTUVWXYZ0123456789"]


class Untouched(list):
    """A list that fails when it is changed, even if it would be changed back."""

    def refuse(self, *args, **kwargs):
        raise AssertionError("what was handed in is changed")

    __setitem__ = __delitem__ = __iadd__ = __imul__ = refuse
    append = clear = extend = insert = pop = remove = reverse = sort = refuse


def text(rows):
    """The bytes of rows written with a / for byte 10."""
    return [10 if sign == "/" else ord(sign) for sign in rows]


def answer(rows):
    """What is answered where the rug's text is that of rows."""
    return [len(rows)] + text(rows)


def text_of(chart):
    return [byte for row in chart for byte in row + [10]]


def plain(width, height, colour="a"):
    """The text of a chart of one colour."""
    return text_of([[ord(colour)] * width] * height)


def chart(width, height, first=0, step=1):
    """A chart whose neighbours differ; with no more than 62 knots and step 1, each knot has its own colour."""
    return [[COLOURS[(first + step * (y * width + x)) % 62] for x in range(width)] for y in range(height)]


def moved(corner, motion):
    """A chart moved by a motion, 0 to 3: turned clockwise so many quarters."""
    for _ in range(motion):
        width, height = len(corner[0]), len(corner)
        turned = [[None] * height for _ in range(width)]
        for y in range(height):
            for x in range(width):
                turned[x][height - 1 - y] = corner[y][x]
        corner = turned
    return corner


def rug(kind, field, strip, corner):
    """The rug, put together knot by knot; fails where a knot is told twice or not at all."""
    L, h, W, H = len(strip[0]), len(strip), len(field[0]), len(field)
    Wo, Ho = W + 2 * h, H + 2 * h
    told = {}

    def tell(x, y, colour):
        assert (x, y) not in told, (x, y)
        told[x, y] = colour

    for y in range(H):
        for x in range(W):
            tell(x + h, y + h, field[y][x])
    {0: tell_set, 1: tell_met, 2: tell_run}[kind](tell, L, h, W, H, strip, corner)
    assert len(told) == Wo * Ho
    return [[told[x, y] for x in range(Wo)] for y in range(Ho)]


def tell_set(tell, L, h, W, H, strip, corner):
    Wo, Ho = W + 2 * h, H + 2 * h
    places = [(0, 0), (Wo - h, 0), (Wo - h, Ho - h), (0, Ho - h)]
    for motion, (left, top) in enumerate(places):
        for y, row in enumerate(moved(corner, motion)):
            for x, colour in enumerate(row):
                tell(left + x, top + y, colour)
    for y in range(h):
        for x in range(h, h + W):
            tell(x, y, strip[y][(x - h) % L])
    for y in range(h, h + H):
        for x in range(Wo - h, Wo):
            tell(x, y, strip[Wo - 1 - x][(y - h) % L])
    for y in range(Ho - h, Ho):
        for x in range(h, h + W):
            tell(x, y, strip[Ho - 1 - y][(Wo - 1 - h - x) % L])
    for y in range(h, h + H):
        for x in range(h):
            tell(x, y, strip[x][(Ho - 1 - h - y) % L])


def tell_met(tell, L, h, W, H, strip, corner):
    Wo, Ho = W + 2 * h, H + 2 * h
    for y in range(Ho):
        for x in range(Wo):
            if not (0 <= x - h < W and 0 <= y - h < H):
                u, v = min(x, Wo - 1 - x), min(y, Ho - 1 - y)
                tell(x, y, strip[min(u, v)][max(u, v) % L])


def tell_run(tell, L, h, W, H, strip, corner):
    Wo, Ho = W + 2 * h, H + 2 * h
    for y in range(Ho):
        for x in range(Wo):
            if x < W + h and y < h:
                tell(x, y, strip[y][x % L])
            if x >= W + h and y < H + h:
                tell(x, y, strip[Wo - 1 - x][y % L])
            if x >= h and y >= H + h:
                tell(x, y, strip[Ho - 1 - y][(Wo - 1 - x) % L])
            if x < h and y >= h:
                tell(x, y, strip[x][(Ho - 1 - y) % L])
