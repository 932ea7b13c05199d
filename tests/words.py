"""The document's words, put down a second time and as they stand, for the tests to hold the program against.

And what several tests share: texts and charts, and what is asked of every call that takes a text.
"""

from itertools import product

COLOURS = [ord(sign) for sign in "abcdefghijklmnopqrstuvwxyzABCDEFGHIJKLMNOPQRSTUVWXYZ0123456789"]


class Untouched(list):
    """A list that fails when it is changed, even if it would be changed back."""

    def refuse(self, *args, **kwargs):
        raise AssertionError("what was handed in is changed")

    __setitem__ = __delitem__ = __iadd__ = __imul__ = refuse
    append = clear = extend = insert = pop = remove = reverse = sort = refuse


class KeepsNothing:
    """What is asked of every call that takes a text.

    A test case that stands under this has the call, as `function`, and in
    `calls` what is to be handed in, made anew each time.
    """

    def test_what_is_handed_in_is_the_same_afterwards(self):
        for call, before in zip(self.calls(), self.calls()):
            self.function(*call)
            self.assertEqual(call, before)

    def test_what_is_handed_in_is_not_changed_for_a_while(self):
        for call in self.calls():
            told = self.function(*call)
            untouched = [Untouched(part) if isinstance(part, list) else part for part in call]
            self.assertEqual(self.function(*untouched), told)

    def test_the_same_call_twice_answers_the_same(self):
        first = [self.function(*call) for call in self.calls()]
        again = [self.function(*call) for call in reversed(self.calls())]
        self.assertEqual(first, list(reversed(again)))

    def test_what_is_done_to_an_answer_is_not_kept(self):
        for call in self.calls():
            told = self.function(*call)
            before = list(told)
            told.reverse()
            told.append(7)
            self.assertEqual(self.function(*call), before)

    def test_a_list_of_whole_numbers_is_answered(self):
        for call in self.calls():
            told = self.function(*call)
            self.assertIs(type(told), list)
            self.assertEqual({type(number) for number in told}, {int})


def text(rows):
    """The bytes of rows written with a / for byte 10."""
    return [10 if sign == "/" else ord(sign) for sign in rows]


def answer(rows):
    """What is answered where the rug's text is that of rows."""
    return [len(rows)] + text(rows)


def text_of(chart):
    return [byte for row in chart for byte in row + [10]]


def plain(width, height, colour="a"):
    """The text of a chart of one colour."""
    return text_of([[ord(colour)] * width] * height)


def chart(width, height, first=0, step=1):
    """A chart whose neighbours differ; with no more than 62 knots and step 1, each knot has its own colour."""
    return [[COLOURS[(first + step * (y * width + x)) % 62] for x in range(width)] for y in range(height)]


# Texts of no right chart, none of them too long, each under what is wrong with it.
NO_CHARTS = {
    "no end": text("ab"),
    "no end of the last row": text("ab/cd"),
    "a shorter row": text("ab/c/"),
    "a longer row": text("ab/cde/"),
    "a shorter row at the top": text("a/bc/bc/"),
    "an empty row alone": text("/"),
    "empty rows alone": text("//"),
    "an empty row at the top": text("/ab/"),
    "an empty row within": text("ab//cd/"),
    "an empty row at the end": text("ab//"),
    "513 wide": plain(513, 1),
    "513 high": plain(1, 513),
    "65,538 knots, 331 wide": plain(331, 198),
    "65,538 knots, 331 high": plain(198, 331),
    "65,792 knots in 66,048 bytes": plain(257, 256),
    "66,048 bytes of no row": [97] * 66048,
    "66,048 bytes of row ends": [10] * 66048,
}


def it_fits(kind, L, h, W, H):
    Wo, Ho = W + 2 * h, H + 2 * h
    if kind == 0:
        return W % L == 0 and H % L == 0
    if kind == 1:
        return Wo % (2 * L) == 0 and Ho % (2 * L) == 0
    return (W + h) % L == 0 and (H + h) % L == 0


def small_borders():
    """Every small border that fits: kind, L, h, W, H."""
    small = product(range(3), range(1, 6), range(1, 5), range(1, 9), range(1, 9))
    return [border for border in small if it_fits(*border)]


def moved(corner, motion):
    """A chart moved by a motion, 0 to 3: turned clockwise so many quarters."""
    for _ in range(motion):
        width, height = len(corner[0]), len(corner)
        turned = [[None] * height for _ in range(width)]
        for y in range(height):
            for x in range(width):
                turned[x][height - 1 - y] = corner[y][x]
        corner = turned
    return corner


def rug(kind, field, strip, corner):
    """The rug, put together knot by knot; fails where a knot is told twice or not at all."""
    L, h, W, H = len(strip[0]), len(strip), len(field[0]), len(field)
    Wo, Ho = W + 2 * h, H + 2 * h
    told = {}

    def tell(x, y, colour):
        assert (x, y) not in told, (x, y)
        told[x, y] = colour

    for y in range(H):
        for x in range(W):
            tell(x + h, y + h, field[y][x])
    {0: tell_set, 1: tell_met, 2: tell_run}[kind](tell, L, h, W, H, strip, corner)
    assert len(told) == Wo * Ho
    return [[told[x, y] for x in range(Wo)] for y in range(Ho)]


def knots(kind, L, h, W, H):
    """What from_of is to tell of each knot of the rug, row by row: the rug of knots that are their own names."""
    def named(what, width, height):
        return [[[what, x, y] for x in range(width)] for y in range(height)]

    return rug(kind, named(0, W, H), named(1, L, h), named(2, h, h))


def tell_set(tell, L, h, W, H, strip, corner):
    Wo, Ho = W + 2 * h, H + 2 * h
    places = [(0, 0), (Wo - h, 0), (Wo - h, Ho - h), (0, Ho - h)]
    for motion, (left, top) in enumerate(places):
        for y, row in enumerate(moved(corner, motion)):
            for x, colour in enumerate(row):
                tell(left + x, top + y, colour)
    for y in range(h):
        for x in range(h, h + W):
            tell(x, y, strip[y][(x - h) % L])
    for y in range(h, h + H):
        for x in range(Wo - h, Wo):
            tell(x, y, strip[Wo - 1 - x][(y - h) % L])
    for y in range(Ho - h, Ho):
        for x in range(h, h + W):
            tell(x, y, strip[Ho - 1 - y][(Wo - 1 - h - x) % L])
    for y in range(h, h + H):
        for x in range(h):
            tell(x, y, strip[x][(Ho - 1 - h - y) % L])


def tell_met(tell, L, h, W, H, strip, corner):
    Wo, Ho = W + 2 * h, H + 2 * h
    for y in range(Ho):
        for x in range(Wo):
            if not (0 <= x - h < W and 0 <= y - h < H):
                u, v = min(x, Wo - 1 - x), min(y, Ho - 1 - y)
                tell(x, y, strip[min(u, v)][max(u, v) % L])


def tell_run(tell, L, h, W, H, strip, corner):
    Wo, Ho = W + 2 * h, H + 2 * h
    for y in range(Ho):
        for x in range(Wo):
            if x < W + h and y < h:
                tell(x, y, strip[y][x % L])
            if x >= W + h and y < H + h:
                tell(x, y, strip[Wo - 1 - x][y % L])
            if x >= h and y >= H + h:
                tell(x, y, strip[Ho - 1 - y][(Wo - 1 - x) % L])
            if x < h and y >= h:
                tell(x, y, strip[x][(Ho - 1 - y) % L])
