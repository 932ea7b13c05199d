"""round_of: the rug, knot by knot (promise 2), and what is handed in."""

import unittest

import words
from rugborders.borders import round_of
from words import KeepsNothing, answer, chart, plain, small_borders, text, text_of


class TheRun(unittest.TestCase):
    """The first four rugs of 'A run'."""

    def test_set_with_a_strip_of_one(self):
        self.assertEqual(round_of(0, text("f/"), text("a/"), text("c/")), answer("cac/afa/cac/"))

    def test_set(self):
        self.assertEqual(round_of(0, text("ff/ff/"), text("ab/"), text("c/")), answer("cabc/bffa/affb/cbac/"))

    def test_met(self):
        self.assertEqual(round_of(1, text("ff/ff/"), text("ab/"), []), answer("abba/bffb/bffb/abba/"))

    def test_run(self):
        self.assertEqual(round_of(2, text("f/"), text("ab/"), []), answer("aba/bfb/aba/"))


class ByHand(unittest.TestCase):
    def test_set_wider_than_high(self):
        self.assertEqual(
            round_of(0, text("0123/4567/"), text("ab/cd/"), text("ef/gh/")),
            answer("efababge/ghcdcdhf/bd0123ca/ac4567db/fhdcdchg/egbabafe/"))

    def test_set_higher_than_wide(self):
        self.assertEqual(
            round_of(0, text("01/23/45/67/"), text("ab/cd/"), text("ef/gh/")),
            answer("efabge/ghcdhf/bd01ca/ac23db/bd45ca/ac67db/fhdchg/egbafe/"))

    def test_met_wider_than_high(self):
        self.assertEqual(
            round_of(1, text("01234567/89ABCDEF/"), text("abc/def/"), []),
            answer("abcabccbacba/befdeffedfeb/cf01234567fc/cf89ABCDEFfc/befdeffedfeb/abcabccbacba/"))

    def test_met_higher_than_wide(self):
        self.assertEqual(
            round_of(1, text("01/23/45/67/89/AB/"), text("a/d/"), []),
            answer("aaaaaa/adddda/ad01da/ad23da/ad45da/ad67da/ad89da/adABda/adddda/aaaaaa/"))

    def test_met_by_a_strip_half_as_long_as_the_side(self):
        self.assertEqual(
            round_of(1, text("01/23/45/67/89/AB/CD/EF/"), text("abc/def/"), []),
            answer("abccba/beffeb/cf01fc/ad23da/be45eb/cf67fc/cf89fc/beABeb/adCDda/cfEFfc/beffeb/abccba/"))

    def test_run_wider_than_high(self):
        self.assertEqual(
            round_of(2, text("0123/"), text("abc/def/"), []),
            answer("abcabcda/defdefeb/cf0123fc/befedfed/adcbacba/"))

    def test_run_higher_than_wide(self):
        self.assertEqual(
            round_of(2, text("0/1/2/3/"), text("abc/def/"), []),
            answer("abcda/defeb/cf0fc/be1da/ad2eb/cf3fc/befed/adcba/"))


class KnotByKnot(unittest.TestCase):
    """Held against the words, put down a second time in words.py."""

    def hold(self, kind, field, strip, corner):
        told = round_of(kind, text_of(field), text_of(strip), text_of(corner))
        expected = text_of(words.rug(kind, field, strip, corner))
        self.assertEqual(told, [len(expected)] + expected)

    def test_every_small_border_that_fits(self):
        for kind, L, h, W, H in small_borders():
            corner = chart(h, h, 20) if kind == 0 else []
            self.hold(kind, chart(W, H, 36), chart(L, h), corner)

    def test_with_a_colour_for_each_knot(self):
        # Strips and corners of more than one row, none like itself when turned or mirrored.
        self.hold(0, chart(8, 4, 20), chart(4, 2), chart(2, 2, 10))
        self.hold(0, chart(4, 8, 20), chart(4, 2), chart(2, 2, 10))
        self.hold(0, chart(6, 3, 30), chart(3, 3), chart(3, 3, 10))
        self.hold(0, chart(3, 6, 30), chart(3, 3), chart(3, 3, 10))
        self.hold(1, chart(12, 4, 12), chart(4, 2), [])
        self.hold(1, chart(4, 12, 12), chart(4, 2), [])
        self.hold(2, chart(9, 3, 20), chart(6, 3), [])
        self.hold(2, chart(3, 9, 20), chart(6, 3), [])

    def test_a_strip_as_long_as_the_side(self):
        self.hold(0, chart(7, 7, 15), chart(7, 2), chart(2, 2, 50))
        self.hold(1, chart(10, 10), chart(7, 2), [])
        self.hold(2, chart(5, 5, 15), chart(7, 2), [])

    def test_deeper_than_the_field_is_wide(self):
        self.hold(0, chart(2, 4), chart(2, 7, 3, 5), chart(7, 7, 11, 3))
        self.hold(1, chart(2, 6), chart(2, 7, 3, 5), [])
        self.hold(1, chart(6, 2), chart(1, 7, 3, 5), [])
        self.hold(2, chart(1, 5), chart(4, 7, 3, 5), [])

    def test_large(self):
        self.hold(0, chart(90, 60, 0, 7), chart(15, 11, 5, 3), chart(11, 11, 1, 5))
        self.hold(0, chart(60, 90, 0, 7), chart(15, 11, 5, 3), chart(11, 11, 1, 5))
        self.hold(1, chart(98, 68, 0, 7), chart(15, 11, 5, 3), [])
        self.hold(1, chart(68, 98, 0, 7), chart(15, 11, 5, 3), [])
        self.hold(2, chart(94, 49, 0, 7), chart(15, 11, 5, 3), [])
        self.hold(2, chart(49, 94, 0, 7), chart(15, 11, 5, 3), [])

    def test_127_deep(self):
        self.hold(0, chart(1, 2), chart(1, 127, 0, 5), chart(127, 127, 1, 5))

    def test_512_wide_or_high(self):
        self.hold(0, chart(510, 3, 0, 7), chart(3, 1), chart(1, 1, 9))
        self.hold(0, chart(3, 510, 0, 7), chart(3, 1), chart(1, 1, 9))
        self.hold(1, chart(508, 4, 0, 7), chart(4, 2), [])
        self.hold(1, chart(4, 508, 0, 7), chart(4, 2), [])
        self.hold(2, chart(510, 6, 0, 7), chart(7, 1), [])
        self.hold(2, chart(6, 510, 0, 7), chart(7, 1), [])

    def test_of_65536_knots(self):
        self.hold(0, chart(252, 252, 0, 7), chart(6, 2), chart(2, 2, 40))
        self.hold(1, chart(508, 124, 0, 7), chart(64, 2), [])
        self.hold(1, chart(124, 508, 0, 7), chart(64, 2), [])
        self.hold(2, chart(252, 252, 0, 7), chart(254, 2), [])

    def test_every_colour_is_taken(self):
        self.assertEqual(len(set(words.COLOURS)), 62)
        for byte in words.COLOURS:
            self.assertEqual(round_of(2, [byte, 10], [byte, 10], []), [12] + [byte, byte, byte, 10] * 3)
            self.assertEqual(round_of(0, [byte, 10], [97, 10], [byte, 10])[:3], [12, byte, 97])


class HandedIn(KeepsNothing, unittest.TestCase):
    function = staticmethod(round_of)

    def calls(self):
        return [
            (0, text("0123/4567/"), text("ab/cd/"), text("ef/gh/")),
            (1, text("ff/ff/"), text("ab/"), []),
            (2, text("0123/"), text("abc/def/"), []),
            (0, text("0123/4567/"), text("ab/cd/"), []),
            (0, text("012/456/"), text("ab/cd/"), text("ef/gh/")),
            (0, text("0123/4567"), text("ab/c/"), text("ef.gh/")),
            (0, plain(509, 128), text("a/b/"), text("ef/gh/")),
            (7, plain(129, 512), plain(129, 512), plain(129, 512)),
        ]

    def test_one_list_handed_in_thrice(self):
        t = text("ab/cd/")
        self.assertEqual(round_of(0, t, t, t), answer("ababca/cdcddb/bdabca/accddb/bddcdc/acbaba/"))
        self.assertEqual(t, text("ab/cd/"))


if __name__ == "__main__":
    unittest.main()
