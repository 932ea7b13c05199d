"""The document's words, put down a second time and as they stand, for the tests to hold the program against.

And what several tests share: texts and charts, and what is asked of every call that takes a text.
"""

from functools import lru_cache
from itertools import product
from time import process_time

COLOURS = [ord(sign) for sign in "abcdefghijklmnopqrstuvwxyzABCDEFGHIJKLMNOPQRSTUVWXYZ0123456789"]


class Untouched(list):
    """A list that fails when it is changed, even if it would be changed back."""

    def refuse(self, *args, **kwargs):
        raise AssertionError("what was handed in is changed")

    __setitem__ = __delitem__ = __iadd__ = __imul__ = refuse
    append = clear = extend = insert = pop = remove = reverse = sort = refuse


class KeepsNothing:
    """What is asked of every call that takes a text.

    A test case that stands under this has the call, as `function`, and in
    `calls` what is to be handed in, made anew each time.
    """

    def test_what_is_handed_in_is_the_same_afterwards(self):
        for call, before in zip(self.calls(), self.calls()):
            self.function(*call)
            self.assertEqual(call, before)

    def test_what_is_handed_in_is_not_changed_for_a_while(self):
        for call in self.calls():
            told = self.function(*call)
            untouched = [Untouched(part) if isinstance(part, list) else part for part in call]
            self.assertEqual(self.function(*untouched), told)

    def test_the_same_call_twice_answers_the_same(self):
        first = [self.function(*call) for call in self.calls()]
        again = [self.function(*call) for call in reversed(self.calls())]
        self.assertEqual(first, list(reversed(again)))

    def test_what_is_done_to_an_answer_is_not_kept(self):
        for call in self.calls():
            told = self.function(*call)
            before = list(told)
            told.reverse()
            told.append(7)
            self.assertEqual(self.function(*call), before)

    def test_a_list_of_whole_numbers_is_answered(self):
        for call in self.calls():
            told = self.function(*call)
            self.assertIs(type(told), list)
            self.assertEqual({type(number) for number in told}, {int})


class AnswersSoon:
    """What is asked of a call at the largest rugs, in a test case that stands under this."""

    def soon(self, function, *call):
        """What the call answers, within a few seconds of the processor's time."""
        start = process_time()
        told = function(*call)
        self.assertLess(process_time() - start, 5)
        return told


def text(rows):
    """The bytes of rows written with a / for byte 10."""
    return [10 if sign == "/" else ord(sign) for sign in rows]


def answer(rows):
    """What is answered where the rug's text is that of rows."""
    return [len(rows)] + text(rows)


def text_of(chart):
    return [byte for row in chart for byte in row + [10]]


def plain(width, height, colour="a"):
    """The text of a chart of one colour."""
    return text_of([[ord(colour)] * width] * height)


def chart(width, height, first=0, step=1):
    """A chart whose neighbours differ; with no more than 62 knots and step 1, each knot has its own colour."""
    return [[COLOURS[(first + step * (y * width + x)) % 62] for x in range(width)] for y in range(height)]


# Texts of no right chart, none of them too long, each under what is wrong with it.
NO_CHARTS = {
    "no end": text("ab"),
    "no end of the last row": text("ab/cd"),
    "a shorter row": text("ab/c/"),
    "a longer row": text("ab/cde/"),
    "a shorter row at the top": text("a/bc/bc/"),
    "an empty row alone": text("/"),
    "empty rows alone": text("//"),
    "an empty row at the top": text("/ab/"),
    "an empty row within": text("ab//cd/"),
    "an empty row at the end": text("ab//"),
    "513 wide": plain(513, 1),
    "513 high": plain(1, 513),
    "65,538 knots, 331 wide": plain(331, 198),
    "65,538 knots, 331 high": plain(198, 331),
    "65,792 knots in 66,048 bytes": plain(257, 256),
    "66,048 bytes of no row": [97] * 66048,
    "66,048 bytes of row ends": [10] * 66048,
}


LARGEST = 4294967295

# A rug with a set border 2 deep, whose corner is not symmetrical.
SET_RUG = text("efababge/ghcdcdhf/bd0123ca/ac4567db/fhdcdchg/egbabafe/")


class RefusesRugs:
    """What is asked of every call that takes a rug and a depth: its refusals of these, and their order (promise 1).

    A test case that stands under this has in `ways` functions of a depth and
    a rug's text, each of which is one way to make the call.
    """

    def refused(self, h, t, refusal):
        for way in self.ways:
            self.assertEqual(way(h, t), [refusal])

    def answered(self, h, t):
        for way in self.ways:
            self.assertGreater(way(h, t)[0], 0)

    def test_too_long(self):
        long = plain(128, 512) + [97]
        self.assertEqual(len(long), 66049)
        self.refused(1, long, -2)
        for byte in (0, 10, 97, 255):
            self.refused(1, [byte] * 66049, -2)
            self.refused(1, [byte] * 70000, -2)
        # 513 rows of 128: more than 66,048 bytes, and too high.
        self.refused(1, plain(128, 513), -2)

    def test_66048_bytes_are_not_too_long(self):
        longest = plain(128, 512)
        self.assertEqual(len(longest), 66048)
        self.answered(1, longest)

    def test_no_right_chart(self):
        for name, wrong in NO_CHARTS.items():
            with self.subTest(name):
                self.refused(1, wrong, -6)
        self.refused(1, [], -6)

    def test_a_fault_in_the_border_or_the_field(self):
        for place in range(len(SET_RUG)):
            for byte in (0, 9, 11, 13, 32, 47, 58, 64, 91, 96, 123, 128, 225, 255):
                self.refused(2, SET_RUG[:place] + [byte] + SET_RUG[place + 1:], -6)
            # A knot or a row's end too few, or one too many.
            self.refused(2, SET_RUG[:place] + SET_RUG[place + 1:], -6)
            self.refused(2, SET_RUG[:place] + [97] + SET_RUG[place:], -6)

    def test_depth(self):
        rugs = (SET_RUG, text("abc/def/ghi/"), text("a/"), plain(512, 128), plain(256, 256), plain(128, 512))
        for rug in rugs:
            for h in (0, 128, 129, 256, 512, 2147483648, LARGEST):
                self.refused(h, rug, -1)

    def test_127_deep(self):
        self.answered(127, plain(256, 256))

    def test_half_the_width_or_the_height(self):
        # Rugs 2 h wide or high, then 2 h - 1.
        for h in (1, 2, 3, 20, 64):
            for narrow in (2 * h, 2 * h - 1):
                for wide in (narrow, 2 * h + 1, 2 * h + 2, 500):
                    self.refused(h, plain(narrow, wide), -1)
                    self.refused(h, plain(wide, narrow), -1)
            self.answered(h, plain(2 * h + 2, 2 * h + 2))

    def test_too_long_ahead_of_all(self):
        for h in (0, 129, LARGEST):
            self.refused(h, plain(128, 512) + [97], -2)
            self.refused(h, [0] * 70000, -2)

    def test_no_right_chart_ahead_of_depth(self):
        for h in (0, 2, 129, LARGEST):
            self.refused(h, text("abc/def/gh/"), -6)
            self.refused(h, text("abc/def/ghi"), -6)
            self.refused(h, [], -6)
            for wrong in NO_CHARTS.values():
                self.refused(h, wrong, -6)


def it_fits(kind, L, h, W, H):
    Wo, Ho = W + 2 * h, H + 2 * h
    if kind == 0:
        return W % L == 0 and H % L == 0
    if kind == 1:
        return Wo % (2 * L) == 0 and Ho % (2 * L) == 0
    return (W + h) % L == 0 and (H + h) % L == 0


def small_borders():
    """Every small border that fits: kind, L, h, W, H."""
    small = product(range(3), range(1, 6), range(1, 5), range(1, 9), range(1, 9))
    return [border for border in small if it_fits(*border)]


def moved(corner, motion):
    """A chart moved by a motion, 0 to 3: turned clockwise so many quarters."""
    for _ in range(motion):
        width, height = len(corner[0]), len(corner)
        turned = [[None] * height for _ in range(width)]
        for y in range(height):
            for x in range(width):
                turned[x][height - 1 - y] = corner[y][x]
        corner = turned
    return corner


def rug(kind, field, strip, corner):
    """The rug, put together knot by knot; fails where a knot is told twice or not at all."""
    L, h, W, H = len(strip[0]), len(strip), len(field[0]), len(field)
    Wo, Ho = W + 2 * h, H + 2 * h
    told = {}

    def tell(x, y, colour):
        assert (x, y) not in told, (x, y)
        told[x, y] = colour

    for y in range(H):
        for x in range(W):
            tell(x + h, y + h, field[y][x])
    {0: tell_set, 1: tell_met, 2: tell_run}[kind](tell, L, h, W, H, strip, corner)
    assert len(told) == Wo * Ho
    return [[told[x, y] for x in range(Wo)] for y in range(Ho)]


def knots(kind, L, h, W, H):
    """What from_of is to tell of each knot of the rug, row by row: the rug of knots that are their own names."""
    def named(what, width, height):
        return [[[what, x, y] for x in range(width)] for y in range(height)]

    return rug(kind, named(0, W, H), named(1, L, h), named(2, h, h))


@lru_cache(maxsize=None)
def known_knots(kind, L, h, W, H):
    """The knots, kept for the many rugs of one size."""
    return knots(kind, L, h, W, H)


def colours_of_knots(named, seen):
    """The colour of each knot of strip and corner that the rug seen has, or None if one would have two."""
    colours = {}
    for names, row in zip(named, seen):
        for (what, x, y), colour in zip(names, row):
            if what != 0 and colours.setdefault((what, x, y), colour) != colour:
                return None
    return colours


def strip_in(colours, L, h):
    """The strip of such colours; a knot of it that has none is of colour a."""
    return [[colours.get((1, x, y), COLOURS[0]) for x in range(L)] for y in range(h)]


def found_strip(kind, h, seen):
    """The strip that is found in the rug seen, or None: of each L that fits, from the least on."""
    W, H = len(seen[0]) - 2 * h, len(seen) - 2 * h
    # None that fits is longer than the field with a border of one side.
    for L in range(1, max(W, H) + h + 1):
        if it_fits(kind, L, h, W, H):
            colours = colours_of_knots(known_knots(kind, L, h, W, H), seen)
            if colours is not None:
                return strip_in(colours, L, h)
    return None


def alike_corner(h, seen):
    """The upper left corner of the rug seen, or None if the four are not alike as kind 0 has them."""
    wide, high = len(seen[0]), len(seen)

    def at(left, top):
        return [row[left:left + h] for row in seen[top:top + h]]

    corner = at(0, 0)
    others = [at(wide - h, 0), at(wide - h, high - h), at(0, high - h)]
    return corner if others == [moved(corner, motion) for motion in (1, 2, 3)] else None


def as_found(kind, strip, W, H):
    """The strip with colour a for the knots of it that no knot of the border round such a field is."""
    L, h = len(strip[0]), len(strip)
    used = {(what, x, y): strip[y][x] for row in knots(kind, L, h, W, H) for what, x, y in row if what == 1}
    return strip_in(used, L, h)


def answered(chart_or_none):
    """What is answered where this chart is told, or where there's none."""
    if chart_or_none is None:
        return [-5]
    return [len(text_of(chart_or_none))] + text_of(chart_or_none)


def border_places(h, width, height):
    """The places that the knots of the border have in a rug's text."""
    return [y * (width + 1) + x for y in range(height) for x in range(width)
            if not (h <= x < width - h and h <= y < height - h)]


def corner_places(h, width, height):
    """The places that the knots of the four corners have in a rug's text."""
    return [y * (width + 1) + x for y in range(height) for x in range(width)
            if not (h <= x < width - h or h <= y < height - h)]


def with_another(t, place):
    """The text with another colour at the place."""
    other = COLOURS[(COLOURS.index(t[place]) + 1) % 62]
    return t[:place] + [other] + t[place + 1:]


def tell_set(tell, L, h, W, H, strip, corner):
    Wo, Ho = W + 2 * h, H + 2 * h
    places = [(0, 0), (Wo - h, 0), (Wo - h, Ho - h), (0, Ho - h)]
    for motion, (left, top) in enumerate(places):
        for y, row in enumerate(moved(corner, motion)):
            for x, colour in enumerate(row):
                tell(left + x, top + y, colour)
    for y in range(h):
        for x in range(h, h + W):
            tell(x, y, strip[y][(x - h) % L])
    for y in range(h, h + H):
        for x in range(Wo - h, Wo):
            tell(x, y, strip[Wo - 1 - x][(y - h) % L])
    for y in range(Ho - h, Ho):
        for x in range(h, h + W):
            tell(x, y, strip[Ho - 1 - y][(Wo - 1 - h - x) % L])
    for y in range(h, h + H):
        for x in range(h):
            tell(x, y, strip[x][(Ho - 1 - h - y) % L])


def tell_met(tell, L, h, W, H, strip, corner):
    Wo, Ho = W + 2 * h, H + 2 * h
    for y in range(Ho):
        for x in range(Wo):
            if not (0 <= x - h < W and 0 <= y - h < H):
                u, v = min(x, Wo - 1 - x), min(y, Ho - 1 - y)
                tell(x, y, strip[min(u, v)][max(u, v) % L])


def tell_run(tell, L, h, W, H, strip, corner):
    Wo, Ho = W + 2 * h, H + 2 * h
    for y in range(Ho):
        for x in range(Wo):
            if x < W + h and y < h:
                tell(x, y, strip[y][x % L])
            if x >= W + h and y < H + h:
                tell(x, y, strip[Wo - 1 - x][y % L])
            if x >= h and y >= H + h:
                tell(x, y, strip[Ho - 1 - y][(Wo - 1 - x) % L])
            if x < h and y >= h:
                tell(x, y, strip[x][(Ho - 1 - y) % L])
