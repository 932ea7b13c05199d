"""corner: the corner that a set border has (promise 4), and its refusals (promise 1)."""

import unittest
from itertools import product

from rugborders.borders import corner, round_of
from words import (LARGEST, SET_RUG, AnswersSoon, KeepsNothing, RefusesRugs, alike_corner, answer, answered,
                   border_places, chart, corner_places, plain, small_borders, text, text_of, with_another)


class ByHand(unittest.TestCase):
    def test_the_run(self):
        self.assertEqual(corner(1, text("cac/afa/cac/")), answer("c/"))
        self.assertEqual(corner(1, text("cabc/bffa/affb/cbac/")), answer("c/"))
        self.assertEqual(corner(1, text("abba/bffb/bffb/abba/")), answer("a/"))
        self.assertEqual(corner(1, text("aba/bfb/aba/")), answer("a/"))

    def test_two_deep(self):
        self.assertEqual(corner(2, SET_RUG), answer("ef/gh/"))
        self.assertEqual(corner(1, SET_RUG), answer("e/"))
        self.assertEqual(corner(2, text("efabge/ghcdhf/bd01ca/ac23db/bd45ca/ac67db/fhdchg/egbafe/")), answer("ef/gh/"))

    def test_three_deep(self):
        rug = "abc0gda/def1heb/ghi2ifc/3456789/cfi0ihg/beh1fed/adg2cba/"
        self.assertEqual(corner(3, text(rug)), answer("abc/def/ghi/"))

    def test_the_border_between_the_corners_does_not_matter(self):
        # Nor does it that no strip fits, or that none makes the border.
        self.assertEqual(corner(1, text("cabcdc/012345/c789Ac/")), answer("c/"))
        self.assertEqual(corner(2, text("ef012ge/gh345hf/6789ABC/fhDEFhg/egGHIfe/")), answer("ef/gh/"))

    def test_corners_moved_otherwise(self):
        # The upper left one is ef/gh/, which by 1, 2 and 3 comes to ge/hf/, hg/fe/ and fh/eg/.
        def rug(upper_right, lower_right, lower_left):
            above = ["ef" + "0" + upper_right[0], "gh" + "1" + upper_right[1]]
            below = [lower_left[0] + "2" + lower_right[0], lower_left[1] + "3" + lower_right[1]]
            return text("/".join(above + ["45678"] + below) + "/")

        one, two, three = ("ge", "hf"), ("hg", "fe"), ("fh", "eg")
        as_it_is, mirrored, upturned = ("ef", "gh"), ("fe", "hg"), ("gh", "ef")
        self.assertEqual(corner(2, rug(one, two, three)), answer("ef/gh/"))
        others = (as_it_is, one, two, three, mirrored, upturned)
        for corners in product(others, repeat=3):
            if corners != (one, two, three):
                self.assertEqual(corner(2, rug(*corners)), [-5], corners)


class WhatWasSetIn(unittest.TestCase):
    def test_every_small_border_that_fits(self):
        for kind, L, h, W, H in small_borders():
            if kind == 0:
                set_in = text_of(chart(h, h, 20))
                rug = round_of(0, text_of(chart(W, H, 36)), text_of(chart(L, h)), set_in)[1:]
                self.assertEqual(corner(h, rug), [len(set_in)] + set_in)

    def test_at_each_depth(self):
        for h in range(1, 128):
            set_in = text_of(chart(h, h, h, 5))
            rug = round_of(0, plain(1, 2), text_of(chart(1, h, 0, 7)), set_in)[1:]
            self.assertEqual(corner(h, rug), [len(set_in)] + set_in)

    def test_any_one_knot_of_the_border_changed(self):
        rug = round_of(0, text_of(chart(4, 6)), text_of(chart(2, 3)), text_of(chart(3, 3, 20)))[1:]
        corners = corner_places(3, 10, 12)
        self.assertEqual(len(corners), 36)
        for place in border_places(3, 10, 12):
            told = [-5] if place in corners else answered(chart(3, 3, 20))
            self.assertEqual(corner(3, with_another(rug, place)), told)

    def test_one_knot_of_a_corner_changed(self):
        for h, width, height in ((1, 3, 3), (1, 6, 4), (2, 5, 7), (4, 11, 9)):
            for rug in (plain(width, height),
                        round_of(0, plain(width - 2 * h, height - 2 * h), plain(1, h), text_of(chart(h, h, 9)))[1:]):
                self.assertGreater(corner(h, rug)[0], 0)
                for place in corner_places(h, width, height):
                    self.assertEqual(corner(h, with_another(rug, place)), [-5])

    def test_every_corner_of_two_colours(self):
        for h, side in ((1, 3), (1, 4)):
            rug = [text("a") * side for y in range(side)]
            places = [(place % (side + 1), place // (side + 1)) for place in corner_places(h, side, side)]
            for colours in product(text("ab"), repeat=len(places)):
                for (x, y), colour in zip(places, colours):
                    rug[y][x] = colour
                self.assertEqual(corner(h, text_of(rug)), answered(alike_corner(h, rug)))

    def test_corners_mirrored_and_upturned(self):
        for first in ("ab/cd/", "ab/ba/", "aa/bb/", "aa/ab/"):
            rows = [text(row) for row in first[:-1].split("/")]
            corners = [rows, rows[::-1], [row[::-1] for row in rows], [row[::-1] for row in rows[::-1]]]
            for one, two, three in product(corners, repeat=3):
                rug = [left + [48] + right for left, right in zip(rows, one)]
                rug += [[48] * 5] + [left + [48] + right for left, right in zip(three, two)]
                self.assertEqual(corner(2, text_of(rug)), answered(alike_corner(2, rug)))


class TheLargestRugs(AnswersSoon, unittest.TestCase):
    def test_set_in_and_with_a_knot_changed(self):
        for h, width, height in ((1, 256, 256), (20, 256, 256), (127, 256, 256), (1, 512, 128), (63, 512, 128),
                                 (1, 128, 512), (30, 128, 512), (63, 128, 512)):
            set_in = chart(h, h, 1, 5)
            field = text_of(chart(width - 2 * h, height - 2 * h, 0, 3))
            rug = round_of(0, field, text_of(chart(1, h, 0, 7)), text_of(set_in))[1:]
            self.assertEqual(self.soon(corner, h, rug), answered(set_in))
            places = corner_places(h, width, height)
            for place in (places[0], places[h], places[-1 - h], places[-1]):
                self.assertEqual(self.soon(corner, h, with_another(rug, place)), [-5])


class Refused(RefusesRugs, unittest.TestCase):
    ways = [corner]

    def test_depth_ahead_of_none_alike(self):
        rug = text("abcd/efgh/ijkl/mnop/")
        self.assertEqual(corner(1, rug), [-5])
        for h in (0, 2, 3, 128, 129, LARGEST):
            self.assertEqual(corner(h, rug), [-1])


class HandedIn(KeepsNothing, unittest.TestCase):
    function = staticmethod(corner)

    def calls(self):
        return [
            (2, list(SET_RUG)),
            (1, text("cabc/bffa/affb/cbac/")),
            (1, text("abcd/efgh/ijkl/mnop/")),
            (2, text("cabc/bffa/affb/cbac/")),
            (0, text("cabc/bffa/affb/cbac/")),
            (1, text("cabc/bffa/affb/cba/")),
            (1, text("cabc/bffa/af.b/cbac/")),
            (1, []),
            (1, [97] * 70000),
            (63, plain(512, 128)),
        ]


if __name__ == "__main__":
    unittest.main()
