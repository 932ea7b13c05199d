"""off: that it undoes round (promise 3), its refusals (promise 1), and what is handed in."""

import unittest

from rugborders.borders import off, round_of
from words import KeepsNothing, RefusesRugs, answer, chart, plain, small_borders, text, text_of


class WhatIsLeft(unittest.TestCase):
    def test_by_hand(self):
        self.assertEqual(off(1, text("abcd/efgh/ijkl/mnop/")), answer("fg/jk/"))
        self.assertEqual(off(1, text("abcde/fghij/klmno/")), answer("ghi/"))
        self.assertEqual(off(1, text("abc/def/ghi/jkl/mno/")), answer("e/h/k/"))
        self.assertEqual(off(2, text("abcdef/ghijkl/mnopqr/stuvwx/yzABCD/")), answer("op/"))
        self.assertEqual(off(2, text("abcde/fghij/klmno/pqrst/uvwxy/zABCD/")), answer("m/r/"))

    def test_the_rugs_of_the_run(self):
        self.assertEqual(off(1, text("cac/afa/cac/")), answer("f/"))
        self.assertEqual(off(1, text("cabc/bffa/affb/cbac/")), answer("ff/ff/"))
        self.assertEqual(off(1, text("abba/bffb/bffb/abba/")), answer("ff/ff/"))
        self.assertEqual(off(1, text("aba/bfb/aba/")), answer("f/"))

    def test_a_depth_that_is_not_the_border_s(self):
        rug = round_of(0, text("0123/4567/"), text("ab/cd/"), text("ef/gh/"))[1:]
        self.assertEqual(off(1, rug), answer("hcdcdh/d0123c/c4567d/hdcdch/"))
        self.assertEqual(off(2, rug), answer("0123/4567/"))

    def test_the_least_field_that_can_be_left(self):
        self.assertEqual(off(1, text("abc/def/ghi/")), answer("e/"))
        for h in (1, 2, 3, 10, 100, 127):
            side = 2 * h + 1
            rug = chart(side, side, 0, 7)
            self.assertEqual(off(h, text_of(rug)), [2, rug[h][h], 10])

    def test_one_wide_or_one_high(self):
        for h in (1, 5, 40):
            rug = chart(2 * h + 1, 2 * h + 9, 0, 7)
            self.assertEqual(off(h, text_of(rug)), [18] + text_of([[rug[h + y][h]] for y in range(9)]))
            rug = chart(2 * h + 9, 2 * h + 1, 0, 7)
            self.assertEqual(off(h, text_of(rug)), [10] + rug[h][h:h + 9] + [10])

    def test_the_largest_rugs(self):
        for width, height in ((512, 128), (128, 512), (256, 256), (331, 197), (512, 3), (3, 512)):
            rug = chart(width, height, 0, 7)
            for h in (1, 2, 31, 63, 127):
                if 2 * h < min(width, height):
                    left = text_of([[rug[y][x] for x in range(h, width - h)] for y in range(h, height - h)])
                    self.assertEqual(off(h, text_of(rug)), [len(left)] + left)

    def test_127_deep(self):
        rug = chart(257, 255, 0, 7)
        self.assertEqual(off(127, text_of(rug)), [4] + rug[127][127:130] + [10])


class UndoesRound(unittest.TestCase):
    def hold(self, kind, L, h, W, H):
        field = text_of(chart(W, H, 36, 7))
        corner = text_of(chart(h, h, 20)) if kind == 0 else []
        rug = round_of(kind, field, text_of(chart(L, h)), corner)
        self.assertGreater(rug[0], 0)
        self.assertEqual(off(h, rug[1:]), [len(field)] + field)

    def test_every_small_border_that_fits(self):
        for border in small_borders():
            self.hold(*border)

    def test_large(self):
        for border in ((0, 15, 11, 90, 60), (1, 15, 11, 68, 98), (2, 15, 11, 94, 49),
                       (0, 3, 1, 510, 3), (1, 4, 2, 4, 508), (2, 7, 1, 510, 6),
                       (0, 6, 2, 252, 252), (1, 64, 2, 508, 124), (2, 254, 2, 252, 252),
                       (0, 1, 127, 1, 2), (1, 1, 127, 2, 2), (2, 4, 127, 1, 1)):
            self.hold(*border)

    def test_three_borders_one_round_another(self):
        field = text("ff/gg/")
        first = round_of(0, field, text("ab/"), text("c/"))
        second = round_of(1, first[1:], text("de/fg/"), [])
        third = round_of(2, second[1:], text("hij/"), [])
        self.assertEqual(off(1, third[1:]), second)
        self.assertEqual(off(2, second[1:]), first)
        self.assertEqual(off(4, third[1:]), answer("ff/gg/"))


class Refused(RefusesRugs, unittest.TestCase):
    ways = [off]

    def test_the_longest_text(self):
        self.assertEqual(off(1, plain(128, 512)), [127 * 510] + plain(126, 510))


class HandedIn(KeepsNothing, unittest.TestCase):
    function = staticmethod(off)

    def calls(self):
        return [
            (1, text("abcd/efgh/ijkl/mnop/")),
            (2, text("abcde/fghij/klmno/pqrst/uvwxy/")),
            (1, text("abc/def/ghi/")),
            (2, text("abc/def/ghi/")),
            (0, text("abc/def/ghi/")),
            (1, text("abc/def/gh/")),
            (1, text("abc/d.f/ghi/")),
            (1, []),
            (1, [97] * 70000),
            (63, plain(512, 128)),
        ]


if __name__ == "__main__":
    unittest.main()
