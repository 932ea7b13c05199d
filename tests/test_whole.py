"""The whole program: the calls as the interface names them, and what they promise of one another."""

import inspect
import unittest
from itertools import product
from random import Random

from rugborders import borders
from rugborders.borders import corner, fits, found, from_of, off, round_of, sizes
from words import SET_RUG, KeepsNothing, answer, chart, it_fits, plain, small_borders, text, text_of

PARAMETERS = {
    "fits": ["kind", "L", "h", "W", "H"],
    "round_of": ["kind", "t", "s", "c"],
    "from_of": ["kind", "L", "h", "W", "H", "x", "y"],
    "off": ["h", "t"],
    "found": ["h", "kind", "t"],
    "corner": ["h", "t"],
    "sizes": ["p", "q", "W", "H", "borders"],
}


class TheInterface(unittest.TestCase):
    def test_names_and_order_of_arguments(self):
        for name, parameters in PARAMETERS.items():
            told = inspect.signature(getattr(borders, name)).parameters.values()
            self.assertEqual([parameter.name for parameter in told], parameters)
            for parameter in told:
                self.assertIs(parameter.default, parameter.empty)

    def test_arguments_by_name(self):
        self.assertEqual(fits(H=2, W=2, h=1, L=2, kind=0), [1])
        self.assertEqual(round_of(c=[], s=text("ab/"), t=text("f/"), kind=2), answer("aba/bfb/aba/"))
        self.assertEqual(from_of(y=0, x=1, H=1, W=1, h=1, L=2, kind=2), [0, 1, 1, 0])
        self.assertEqual(off(t=text("aba/bfb/aba/"), h=1), answer("f/"))
        self.assertEqual(found(t=text("aba/bfb/aba/"), kind=2, h=1), answer("ab/"))
        self.assertEqual(corner(t=text("aba/bfb/aba/"), h=1), answer("a/"))
        self.assertEqual(sizes(borders=[0, 4, 1, 2, 3, 2], H=1, W=5, q=1, p=2), [0, 8, 8])


class OneAnother(unittest.TestCase):
    """Points 2, 3 and 4: of each rug that round_of makes, what the other calls tell of it."""

    def hold(self, kind, field, strip, corner_chart):
        L, h, W, H = len(strip[0]), len(strip), len(field[0]), len(field)
        self.assertEqual(fits(kind, L, h, W, H), [1])
        told = round_of(kind, text_of(field), text_of(strip), text_of(corner_chart))
        rug = told[1:]
        self.assertEqual(told[0], (W + 2 * h + 1) * (H + 2 * h))
        self.assertEqual(len(rug), told[0])
        self.is_what_it_is_told_to_be(rug, kind, field, strip, corner_chart)
        self.assertEqual(off(h, rug)[1:], text_of(field))
        set_in = []
        if kind == 0:
            set_in = corner(h, rug)[1:]
            self.assertEqual(set_in, text_of(corner_chart))
        again = found(h, kind, rug)
        self.assertGreater(again[0], 0)
        self.assertLessEqual(again[0], len(text_of(strip)))
        self.assertEqual(round_of(kind, off(h, rug)[1:], again[1:], set_in), told)

    def is_what_it_is_told_to_be(self, rug, kind, field, strip, corner_chart):
        L, h, W, H = len(strip[0]), len(strip), len(field[0]), len(field)
        charts = [field, strip, corner_chart]
        for y in range(H + 2 * h):
            for x in range(W + 2 * h):
                told = from_of(kind, L, h, W, H, x, y)
                self.assertEqual(len(told), 4)
                self.assertEqual(rug[y * (W + 2 * h + 1) + x], charts[told[1]][told[3]][told[2]])
        self.assertEqual(from_of(kind, L, h, W, H, W + 2 * h, 0), [-4])
        self.assertEqual(from_of(kind, L, h, W, H, 0, H + 2 * h), [-4])

    def test_every_small_border(self):
        chance = Random(5)
        for kind, L, h, W, H in small_borders():
            two = [[chance.choices(text("ab"), k=wide) for y in range(high)] for wide, high in ((W, H), (L, h), (h, h))]
            self.hold(kind, two[0], two[1], two[2] if kind == 0 else [])

    def test_what_does_not_fit_is_refused_alike(self):
        for kind, L, h, W, H in product(range(3), range(1, 5), (1, 2), range(1, 7), range(1, 7)):
            right = it_fits(kind, L, h, W, H)
            self.assertEqual(fits(kind, L, h, W, H), [int(right)])
            told = round_of(kind, plain(W, H), plain(L, h), plain(h, h) if kind == 0 else [])
            self.assertEqual(told == [-3], not right)
            self.assertEqual(from_of(kind, L, h, W, H, 0, 0) == [-3], not right)

    def test_borders_put_round_at_sizes_told(self):
        for row in ([0, 4, 1, 2, 3, 2], [2, 7, 1, 1, 7, 3, 0, 7, 2], [1, 2, 2, 0, 4, 1], [0, 5, 3]):
            told = sizes(2, 1, 5, 1, row)
            self.assertEqual(told[0], 0)
            fields = [chart(told[1], told[2], 0, 7)]
            for at in range(0, len(row), 3):
                kind, L, h = row[at:at + 3]
                strip, corner_chart = chart(L, h, 11, 5), chart(h, h, 3, 5) if kind == 0 else []
                self.hold(kind, fields[-1], strip, corner_chart)
                rug = round_of(kind, text_of(fields[-1]), text_of(strip), text_of(corner_chart))[1:]
                width = rug.index(10)
                fields.append([rug[place:place + width] for place in range(0, len(rug), width + 1)])
            # Taken off one by one, from the outermost.
            left = text_of(fields.pop())
            for at in range(len(row) - 3, -1, -3):
                left = off(row[at + 2], left)[1:]
                self.assertEqual(left, text_of(fields.pop()))


def call(name, *arguments):
    return getattr(borders, name)(*arguments)


class EachCallByItself(KeepsNothing, unittest.TestCase):
    """The seven calls one behind another, each as if it were the first."""

    function = staticmethod(call)

    def calls(self):
        answered = [
            ("fits", 1, 3, 2, 8, 2),
            ("round_of", 0, text("0123/4567/"), text("ab/cd/"), text("ef/gh/")),
            ("from_of", 0, 2, 2, 4, 2, 7, 0),
            ("off", 2, list(SET_RUG)),
            ("found", 2, 0, list(SET_RUG)),
            ("corner", 2, list(SET_RUG)),
            ("sizes", 2, 1, 5, 1, [0, 4, 1, 2, 3, 2]),
        ]
        refused = [
            ("fits", 3, 3, 2, 8, 2),
            ("round_of", 0, text("012/456/"), text("ab/cd/"), text("ef/gh/")),
            ("from_of", 0, 2, 2, 4, 2, 8, 0),
            ("off", 3, list(SET_RUG)),
            ("found", 2, 1, list(SET_RUG)),
            ("corner", 1, text("abc/def/ghi/")),
            ("sizes", 2, 1, 5, 1, [0, 4, 1, 2, 3]),
        ]
        return answered + refused + answered[::-1]


if __name__ == "__main__":
    unittest.main()
