"""found: the least strip that makes a rug's border (promise 4), for each kind."""

import unittest
from itertools import product
from random import Random

import words
from rugborders.borders import corner, found, off, round_of
from words import (AnswersSoon, KeepsNothing, answer, answered, as_found, border_places, chart, found_strip, it_fits,
                   plain, small_borders, text, text_of, with_another)


def rug_text(kind, field, strip, corner_rows):
    """The text of the rug of charts written with a / for byte 10."""
    return round_of(kind, text(field), text(strip), text(corner_rows))[1:]


class TheRun(unittest.TestCase):
    def test_found_in_that_last_one(self):
        rug = text("aba/bfb/aba/")
        self.assertEqual(found(1, 2, rug), answer("ab/"))
        self.assertEqual(found(1, 0, rug), answer("b/"))
        self.assertEqual(found(1, 1, rug), [-5])
        self.assertEqual(corner(1, rug), answer("a/"))

    def test_found_in_the_others(self):
        for rug, told in (("cac/afa/cac/", ("a/", -5, "ca/")),
                          ("cabc/bffa/affb/cbac/", ("ab/", -5, "cab/")),
                          ("abba/bffb/bffb/abba/", ("b/", "ab/", "abb/"))):
            for kind, strip in enumerate(told):
                expected = [-5] if strip == -5 else answer(strip)
                self.assertEqual(found(1, kind, text(rug)), expected)


class ByHand(unittest.TestCase):
    def test_set(self):
        self.assertEqual(found(1, 0, text("xabcdx/d0000a/c0000b/b0000c/a0000d/xdcbax/")), answer("abcd/"))
        self.assertEqual(
            found(2, 0, text("efababge/ghcdcdhf/bd0123ca/ac4567db/fhdcdchg/egbabafe/")), answer("ab/cd/"))
        self.assertEqual(
            found(2, 0, text("efabge/ghcdhf/bd01ca/ac23db/bd45ca/ac67db/fhdchg/egbafe/")), answer("ab/cd/"))

    def test_met(self):
        self.assertEqual(
            found(2, 1, text("abcabccbacba/befdeffedfeb/cf01234567fc/cf89ABCDEFfc/befdeffedfeb/abcabccbacba/")),
            answer("abc/def/"))
        self.assertEqual(
            found(2, 1, text("aaaaaa/adddda/ad01da/ad23da/ad45da/ad67da/ad89da/adABda/adddda/aaaaaa/")),
            answer("a/d/"))

    def test_run(self):
        self.assertEqual(
            found(2, 2, text("abcabcda/defdefeb/cf0123fc/befedfed/adcbacba/")), answer("abc/def/"))
        self.assertEqual(
            found(2, 2, text("abcda/defeb/cf0fc/be1da/ad2eb/cf3fc/befed/adcba/")), answer("abc/def/"))

    def test_strips_that_read_from_the_left_below(self):
        # As the run's second and last rug, but for the strip below.
        self.assertEqual(found(1, 0, text("cabc/bffa/affb/cabc/")), [-5])
        self.assertEqual(found(1, 2, text("abcd/d00a/c00b/b00c/adcd/")), [-5])

    def test_a_border_of_one_colour(self):
        for kind in range(3):
            self.assertEqual(found(1, kind, text("aaaa/abca/adea/aaaa/")), answer("a/"))
            self.assertEqual(found(2, kind, plain(8, 6, "9")), answer("9/9/"))


class TheLeastLength(unittest.TestCase):
    def hold(self, kind, strip, W, H, told):
        """The strip round such a field is found as told."""
        h = strip.count("/")
        corner_chart = text_of(chart(h, h, 40)) if kind == 0 else []
        rug = round_of(kind, plain(W, H, "f"), text(strip), corner_chart)
        self.assertGreater(rug[0], 0)
        with self.subTest(kind=kind, strip=strip, W=W, H=H):
            self.assertEqual(found(h, kind, rug[1:]), answer(told))

    def test_strips_that_repeat_within_themselves(self):
        for kind, W, H in ((0, 12, 24), (1, 22, 46), (2, 11, 23)):
            self.hold(kind, "aaaaaaaaaaaa/", W, H, "a/")
            self.hold(kind, "abababababab/", W, H, "ab/")
            self.hold(kind, "abcabcabcabc/", W, H, "abc/")
            self.hold(kind, "abbcabbcabbc/", W, H, "abbc/")
            self.hold(kind, "aabbccaabbcc/", W, H, "aabbcc/")

    def test_a_length_that_divides_but_does_not_make_it_is_passed_over(self):
        for kind, W, H in ((0, 12, 24), (1, 22, 46), (2, 11, 23)):
            self.hold(kind, "abababababac/", W, H, "abababababac/")
            self.hold(kind, "abcabcabcabb/", W, H, "abcabcabcabb/")
            self.hold(kind, "aaaaaaaaaaab/", W, H, "aaaaaaaaaaab/")
            self.hold(kind, "baaaaaaaaaaa/", W, H, "baaaaaaaaaaa/")
            self.hold(kind, "aabaabaabaab/", W, H, "aab/")

    def test_rows_that_repeat_at_lengths_of_their_own(self):
        for kind, W, H in ((0, 12, 24), (1, 20, 44), (2, 10, 22)):
            self.hold(kind, "abababababab/cdecdecdecde/", W, H, "ababab/cdecde/")
            self.hold(kind, "aaaaaaaaaaaa/bcbcbcbcbcbc/", W, H, "aa/bc/")
            self.hold(kind, "abcdabcdabcd/eeeeeeeeeeee/", W, H, "abcd/eeee/")
            self.hold(kind, "abcdabcdabcd/efgefgefgefg/", W, H, "abcdabcdabcd/efgefgefgefg/")

    def test_a_shorter_length_that_makes_it_but_does_not_fit_is_passed_over(self):
        # The strip is the beginning of one that begins anew behind 4, or 2, knots.
        for kind, W, H in ((0, 6, 6), (1, 10, 10), (2, 5, 5), (0, 6, 12), (2, 5, 11)):
            self.hold(kind, "abcdab/", W, H, "abcdab/")
        for kind, W, H in ((0, 3, 3), (1, 4, 4), (2, 2, 2)):
            self.hold(kind, "aba/", W, H, "aba/")

    def test_a_length_that_fits_one_side_alone_is_not_told(self):
        for kind, W, H in ((0, 4, 6), (0, 6, 4), (1, 6, 10), (1, 10, 6), (2, 3, 5), (2, 5, 3)):
            self.assertFalse(it_fits(kind, 4, 1, W, H))
            rug = words.rug(kind, chart(W, H), [text("abcd")], [text("c")])
            self.assertEqual(found(1, kind, text_of(rug)), [-5])


class KnotsOfTheStripThatAreNotUsed(unittest.TestCase):
    """For kind 1, told as colour a."""

    def test_below_the_corner_s_diagonal(self):
        self.assertEqual(found(2, 1, rug_text(1, "ff/ff/", "bcd/efg/", "")), answer("bcd/afg/"))
        self.assertEqual(
            found(3, 1, rug_text(1, "ff/ff/", "bcde/fghi/jklm/", "")), answer("bcde/aghi/aalm/"))

    def test_below_the_diagonal_of_a_strip_that_begins_anew(self):
        # Sides of 12: the row 4 deep begins at 4 and goes as far as 5, where the strip's knots are 1 and 2.
        self.assertEqual(
            found(5, 1, rug_text(1, "ff/ff/", "bcd/efg/hij/klm/nop/", "")), answer("bcd/efg/hij/klm/aop/"))

    def test_all_are_used_where_the_rug_is_longer_one_way(self):
        self.assertEqual(found(2, 1, rug_text(1, "ffffffff/ffffffff/", "bcd/efg/", "")), answer("bcd/efg/"))
        self.assertEqual(found(2, 1, rug_text(1, "ff/ff/ff/ff/ff/ff/ff/ff/", "bcd/efg/", "")), answer("bcd/efg/"))

    def test_one_that_is_not_used_does_not_keep_the_strip_long(self):
        self.assertEqual(found(2, 1, rug_text(1, "ff/ff/", "bbb/xcc/", "")), answer("b/c/"))
        self.assertEqual(found(3, 1, rug_text(1, "ff/ff/", "bcbc/xede/yzgf/", "")), answer("bc/de/gf/"))

    def test_one_of_colour_a_is_as_any_other(self):
        self.assertEqual(found(2, 1, rug_text(1, "ff/ff/", "bab/aba/", "")), answer("bab/aba/"))


class WhatWasPutRound(unittest.TestCase):
    """Promise 4, at every small border that fits."""

    def hold(self, kind, field, strip, corner_chart):
        """What is found is no longer than the strip, is told as the words have it, and makes the same rug."""
        h = len(strip)
        rug = round_of(kind, text_of(field), text_of(strip), text_of(corner_chart))[1:]
        told = found(h, kind, rug)
        self.assertLessEqual(told[0], len(text_of(strip)))
        self.assertEqual(told, answered(found_strip(kind, h, words.rug(kind, field, strip, corner_chart))))
        left = off(h, rug)[1:]
        set_in = corner(h, rug)[1:] if kind == 0 else []
        self.assertEqual(round_of(kind, left, told[1:], set_in)[1:], rug)
        return told

    def test_with_a_colour_for_each_knot(self):
        for kind, L, h, W, H in small_borders():
            strip = chart(L, h)
            told = self.hold(kind, chart(W, H, 36), strip, chart(h, h, 20) if kind == 0 else [])
            self.assertEqual(told, answered(as_found(kind, strip, W, H)))

    def test_with_two_colours(self):
        chance = Random(1)
        for kind, L, h, W, H in small_borders():
            repeated = chance.choice([d for d in range(1, L + 1) if L % d == 0])
            part = [chance.choices(text("ab"), k=repeated) for y in range(h)]
            strip = [row * (L // repeated) for row in part]
            corner_chart = [chance.choices(text("ab"), k=h) for y in range(h)] if kind == 0 else []
            self.hold(kind, [chance.choices(text("ab"), k=W) for y in range(H)], strip, corner_chart)

    def test_rows_that_repeat_at_lengths_of_their_own(self):
        chance = Random(2)
        for kind, W, H in product(range(3), (12, 24), (12, 24, 36)):
            for h in (1, 2, 3, 4):
                sides = {0: (W, H), 1: (2 * W - 2 * h, 2 * H - 2 * h), 2: (W - h, H - h)}[kind]
                lengths = chance.choices((1, 2, 3, 4, 6), k=h)
                strip = [chance.choices(text("ab"), k=length) * (12 // length) for length in lengths]
                self.hold(kind, chart(*sides), strip, chart(h, h, 20) if kind == 0 else [])

    def test_a_border_round_a_border(self):
        within = round_of(1, text("ff/gg/"), text("ab/"), [])[1:]
        rug = round_of(2, within, text("cde/fgh/"), [])[1:]
        self.assertEqual(found(2, 2, rug), answer("cde/fgh/"))
        self.assertEqual(found(1, 1, off(2, rug)[1:]), answer("ab/"))

    def test_another_field_makes_no_difference(self):
        for kind, strip, corner_rows, left, right in ((0, "abc/def/", "gh/ij/", "a" * 6, "b" * 6),
                                                      (1, "abc/def/", "", "a" * 8, "b" * 8),
                                                      (2, "abc/def/", "", "a" * 7, "b" * 7)):
            fields = ["/".join([row] * len(row)) + "/" for row in (left, right)]
            told = [found(2, kind, rug_text(kind, field, strip, corner_rows)) for field in fields]
            self.assertEqual(told, [answer("abc/def/")] * 2)


class EveryRugOfTwoColours(unittest.TestCase):
    """Each border of two colours round a small field, whether it can be made or not."""

    def hold(self, h, width, height):
        rug = [text("a") * width for y in range(height)]
        places = [(place % (width + 1), place // (width + 1)) for place in border_places(h, width, height)]
        for colours in product(text("ab"), repeat=len(places)):
            for (x, y), colour in zip(places, colours):
                rug[y][x] = colour
            t = text_of(rug)
            for kind in range(3):
                self.assertEqual(found(h, kind, t), answered(found_strip(kind, h, rug)), (h, kind, rug))

    def test_one_deep(self):
        for width, height in ((3, 3), (3, 4), (4, 3), (4, 4), (3, 5), (5, 3)):
            self.hold(1, width, height)


class TheLargestRugs(AnswersSoon, unittest.TestCase):
    def hold(self, kind, L, h, W, H):
        strip = chart(L, h, 5, 7)
        corner_chart = chart(h, h, 1, 5) if kind == 0 else []
        rug = round_of(kind, text_of(chart(W, H, 0, 3)), text_of(strip), text_of(corner_chart))[1:]
        with self.subTest(kind=kind, L=L, h=h, W=W, H=H):
            self.assertEqual(self.soon(found, h, kind, rug), answered(as_found(kind, strip, W, H)))
            places = border_places(h, W + 2 * h, H + 2 * h)
            for place in (places[0], places[h], places[len(places) // 2], places[-1 - h], places[-1]):
                self.assertEqual(self.soon(found, h, kind, with_another(rug, place)), [-5])

    def test_256_by_256(self):
        for border in ((0, 127, 1, 254, 254), (0, 240, 8, 240, 240), (0, 60, 68, 120, 120), (0, 2, 127, 2, 2),
                       (1, 128, 1, 254, 254), (1, 128, 64, 128, 128), (1, 32, 127, 2, 2),
                       (2, 255, 1, 254, 254), (2, 240, 16, 224, 224), (2, 129, 127, 2, 2)):
            self.hold(*border)

    def test_512_by_128(self):
        for border in ((0, 6, 1, 510, 126), (0, 96, 16, 480, 96), (0, 2, 63, 386, 2),
                       (1, 64, 1, 510, 126), (1, 16, 30, 452, 68), (1, 64, 63, 386, 2),
                       (2, 4, 4, 504, 120), (2, 96, 32, 448, 64), (2, 1, 63, 386, 2)):
            self.hold(*border)

    def test_128_by_512(self):
        for border in ((0, 6, 1, 126, 510), (0, 96, 16, 96, 480), (1, 64, 1, 126, 510), (1, 64, 63, 2, 386),
                       (2, 4, 4, 120, 504), (2, 96, 32, 64, 448)):
            self.hold(*border)

    def test_of_one_colour(self):
        for width, height in ((256, 256), (512, 128), (128, 512)):
            rug = plain(width, height)
            for h, kind in product((1, 2, 8, 16, 31, 63), range(3)):
                self.assertEqual(self.soon(found, h, kind, rug), answered([[97]] * h))

    def test_of_one_colour_but_for_the_last_knot(self):
        for width, height in ((256, 256), (512, 128), (128, 512)):
            rug = plain(width, height)
            rug[-2] = 98
            for h, kind in product((1, 2, 8, 16, 31, 63), range(3)):
                self.assertEqual(self.soon(found, h, kind, rug), [-5])


class HandedIn(KeepsNothing, unittest.TestCase):
    function = staticmethod(found)

    def calls(self):
        return [
            (1, 0, text("cabc/bffa/affb/cbac/")),
            (2, 0, text("efababge/ghcdcdhf/bd0123ca/ac4567db/fhdcdchg/egbabafe/")),
            (2, 1, text("bcddcb/beffeb/cf00fc/cf00fc/beffeb/bcddcb/")),
            (1, 1, text("abba/bffb/bffb/abba/")),
            (1, 2, text("aba/bfb/aba/")),
            (1, 1, text("aba/bfb/aba/")),
            (1, 3, text("aba/bfb/aba/")),
            (2, 2, text("aba/bfb/aba/")),
            (1, 2, text("aba/bfb/ab/")),
            (1, 2, []),
            (1, 2, [97] * 70000),
            (63, 1, plain(512, 128)),
        ]


if __name__ == "__main__":
    unittest.main()
