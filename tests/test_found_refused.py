"""found: where no strip is found (promise 4), and its refusals, their edges and their order (promise 1)."""

import unittest
from itertools import product

from rugborders.borders import found, round_of
from words import (LARGEST, SET_RUG, RefusesRugs, answer, border_places, chart, plain, small_borders, text, text_of,
                   with_another)

RUG = text("cabc/bffa/affb/cbac/")


class NoneFound(unittest.TestCase):
    def test_one_knot_of_the_border_changed(self):
        # Each knot of a strip or corner is several of the border, so none can be another alone.
        for kind, L, h, W, H in small_borders():
            if h > 2 or max(W, H) > 6:
                continue
            corner = text_of(chart(h, h, 20)) if kind == 0 else []
            rug = round_of(kind, text_of(chart(W, H, 36)), text_of(chart(L, h)), corner)[1:]
            for place in border_places(h, W + 2 * h, H + 2 * h):
                self.assertEqual(found(h, kind, with_another(rug, place)), [-5], (kind, L, h, W, H, place))

    def test_one_knot_of_a_border_of_one_colour_changed(self):
        for h, width, height in ((1, 3, 3), (1, 8, 6), (2, 8, 8), (3, 7, 9)):
            rug = plain(width, height)
            for place in border_places(h, width, height):
                for kind in range(3):
                    self.assertEqual(found(h, kind, with_another(rug, place)), [-5])

    def test_one_knot_of_the_field_changed(self):
        for kind, side in ((0, 6), (1, 8), (2, 7)):
            rug = round_of(kind, plain(side - 2, side - 2), text("ab/"), text("c/") if kind == 0 else [])[1:]
            border = border_places(1, side, side)
            for place in range(len(rug)):
                if rug[place] != 10 and place not in border:
                    self.assertEqual(found(1, kind, with_another(rug, place)), answer("ab/"))

    def test_met_in_a_rug_of_an_odd_side(self):
        # 2 L divides no odd side, not even with a strip of 1.
        for width, height in ((3, 3), (5, 5), (4, 5), (5, 4), (3, 6), (9, 8)):
            self.assertEqual(found(1, 1, plain(width, height)), [-5])
        self.assertEqual(found(1, 1, plain(4, 6)), answer("a/"))

    def test_met_not_mirrored(self):
        self.assertEqual(found(1, 1, text("abab/bffb/bffb/abba/")), [-5])
        self.assertEqual(found(1, 1, text("abba/bffb/affa/abba/")), [-5])
        # Mirrored at a knot, not between two.
        self.assertEqual(found(1, 1, text("abcba/bfffb/cfffc/bfffb/abcba/")), [-5])

    def test_run_mirrored(self):
        rows = ["abcabcda", "defdefeb", "cf0123fc", "befedfed", "adcbacba"]
        self.assertEqual(found(2, 2, text("/".join(rows) + "/")), answer("abc/def/"))
        self.assertEqual(found(2, 2, text("/".join([row[::-1] for row in rows]) + "/")), [-5])
        self.assertEqual(found(2, 2, text("/".join(rows[::-1]) + "/")), [-5])

    def test_run_that_overlaps(self):
        # Each strip as long as the rug, so that the next one begins within it.
        self.assertEqual(found(1, 2, text("abca/c00b/b00c/acba/")), answer("abc/"))
        self.assertEqual(found(1, 2, text("abab/b00a/a00b/baba/")), [-5])


class CornersNotAlike(unittest.TestCase):
    """Found is a set border with some corner; then the four have to be alike."""

    def test_another_colour_in_one_of_the_four(self):
        self.assertEqual(found(1, 0, RUG), answer("ab/"))
        for rug in ("dabc/bffa/affb/cbac/", "cabd/bffa/affb/cbac/", "cabc/bffa/affb/cbad/", "cabc/bffa/affb/dbac/"):
            self.assertEqual(found(1, 0, text(rug)), [-5])
        for rug in ("dabd/bffa/affb/cbac/", "dabc/bffa/affb/dbac/", "dabc/bffa/affb/cbad/", "dabe/bffa/affb/fbag/"):
            self.assertEqual(found(1, 0, text(rug)), [-5])

    def test_corners_moved_otherwise(self):
        # The upper left one is ef/gh/, which by 1, 2 and 3 comes to ge/hf/, hg/fe/ and fh/eg/.
        def rug(upper_right, lower_right, lower_left):
            above = ["ef" + "aa" + upper_right[0], "gh" + "bb" + upper_right[1]]
            below = [lower_left[0] + "bb" + lower_right[0], lower_left[1] + "aa" + lower_right[1]]
            return text("/".join(above + ["abffba"] * 2 + below) + "/")

        one, two, three = ("ge", "hf"), ("hg", "fe"), ("fh", "eg")
        as_it_is, mirrored, upturned = ("ef", "gh"), ("fe", "hg"), ("gh", "ef")
        self.assertEqual(found(2, 0, rug(one, two, three)), answer("a/b/"))
        others = (as_it_is, one, two, three, mirrored, upturned)
        for corners in product(others, repeat=3):
            if corners != (one, two, three):
                self.assertEqual(found(2, 0, rug(*corners)), [-5], corners)

    def test_corners_do_not_matter_to_the_other_kinds(self):
        # Kind 2 has its strip there: it is found where the corners go with it.
        self.assertEqual(found(1, 0, text("xabx/b00a/a00b/xbay/")), [-5])
        self.assertEqual(found(1, 2, text("xabx/b00a/a00b/xbax/")), answer("xab/"))


class Refused(RefusesRugs, unittest.TestCase):
    ways = [lambda h, t: found(h, 0, t), lambda h, t: found(h, 1, t), lambda h, t: found(h, 2, t)]

    def test_kind(self):
        for kind in (3, 4, 255, 256, 2147483648, LARGEST):
            self.assertEqual(found(2, kind, SET_RUG), [-1])
            self.assertEqual(found(1, kind, text("aba/bfb/aba/")), [-1])
            self.assertEqual(found(1, kind, plain(256, 256)), [-1])

    def test_kind_and_depth(self):
        for kind, h in product((3, LARGEST), (0, 3, 129, LARGEST)):
            self.assertEqual(found(h, kind, SET_RUG), [-1])

    def test_too_long_ahead_of_kind(self):
        for kind, h in product((3, LARGEST), (0, 1, 129, LARGEST)):
            self.assertEqual(found(h, kind, plain(128, 512) + [97]), [-2])
            self.assertEqual(found(h, kind, [0] * 70000), [-2])

    def test_no_right_chart_ahead_of_kind(self):
        for kind, h in product((3, LARGEST), (0, 1, 2, 129, LARGEST)):
            self.assertEqual(found(h, kind, text("abc/def/gh/")), [-6])
            self.assertEqual(found(h, kind, []), [-6])

    def test_out_of_bounds_ahead_of_none_found(self):
        rug = text("abcd/efgh/ijkl/mnop/")
        for kind in range(3):
            self.assertEqual(found(1, kind, rug), [-5])
            for h in (0, 2, 3, 128, 129, LARGEST):
                self.assertEqual(found(h, kind, rug), [-1])
        for kind, h in product((3, LARGEST), (0, 1, 2, 129, LARGEST)):
            self.assertEqual(found(h, kind, rug), [-1])

    def test_the_longest_text(self):
        for kind in range(3):
            self.assertEqual(found(1, kind, plain(128, 512)), answer("a/"))

    def test_the_least_field_that_can_be_left(self):
        for h in (1, 2, 3, 20, 64, 127):
            for kind, told in ((0, answer("a/" * h)), (1, [-5]), (2, answer("a/" * h))):
                self.assertEqual(found(h, kind, plain(2 * h + 1, 2 * h + 1)), told)
            self.assertEqual(found(h, 1, plain(2 * h + 2, 2 * h + 2)), answer("a/" * h))


if __name__ == "__main__":
    unittest.main()
