"""from_of: what each knot of a rug is (promise 2), and its refusals (promise 1)."""

import unittest

import words
from rugborders.borders import from_of, round_of
from words import chart, small_borders, text, text_of

LARGEST = 4294967295

FIELD = 0
STRIP = 1
CORNER = 2


class ByHand(unittest.TestCase):
    def hold(self, border, knots):
        """The border is kind, L, h, W, H; each knot of it is told with what it is."""
        for (x, y), told in knots.items():
            with self.subTest(border=border, x=x, y=y):
                self.assertEqual(from_of(*border, x, y), [0] + told)

    def test_field(self):
        # A rug 12 wide and 8 high, then one 8 wide and 5 high.
        for border in ((0, 4, 2, 8, 4), (1, 2, 2, 8, 4), (2, 2, 2, 8, 4)):
            self.hold(border, {
                (2, 2): [FIELD, 0, 0], (9, 2): [FIELD, 7, 0], (9, 5): [FIELD, 7, 3], (2, 5): [FIELD, 0, 3],
                (5, 3): [FIELD, 3, 1],
            })
        for border in ((0, 1, 2, 4, 1), (2, 3, 2, 4, 1)):
            self.hold(border, {(2, 2): [FIELD, 0, 0], (3, 2): [FIELD, 1, 0], (5, 2): [FIELD, 3, 0]})

    def test_set_strip_on_every_side(self):
        # A rug 12 wide and 8 high; the strip begins anew behind each corner.
        self.hold((0, 4, 2, 8, 4), {
            # above
            (2, 0): [STRIP, 0, 0], (2, 1): [STRIP, 0, 1], (5, 0): [STRIP, 3, 0], (6, 1): [STRIP, 0, 1],
            (9, 0): [STRIP, 3, 0], (9, 1): [STRIP, 3, 1],
            # right
            (11, 2): [STRIP, 0, 0], (10, 2): [STRIP, 0, 1], (11, 4): [STRIP, 2, 0],
            (11, 5): [STRIP, 3, 0], (10, 5): [STRIP, 3, 1],
            # below, from the right
            (9, 7): [STRIP, 0, 0], (9, 6): [STRIP, 0, 1], (6, 7): [STRIP, 3, 0], (5, 6): [STRIP, 0, 1],
            (2, 7): [STRIP, 3, 0], (2, 6): [STRIP, 3, 1],
            # left, from below
            (0, 5): [STRIP, 0, 0], (1, 5): [STRIP, 0, 1], (0, 3): [STRIP, 2, 0],
            (0, 2): [STRIP, 3, 0], (1, 2): [STRIP, 3, 1],
        })

    def test_set_each_of_the_four_corners(self):
        # Six knots of the corner chart, and where each of the four corners has them.
        chart_knots = ((0, 0), (2, 0), (2, 2), (0, 2), (1, 0), (0, 1))
        corners = (
            # the upper left one as it is
            ((0, 0), (2, 0), (2, 2), (0, 2), (1, 0), (0, 1)),
            # the upper right one turned by one quarter
            ((11, 0), (11, 2), (9, 2), (9, 0), (11, 1), (10, 0)),
            # the lower right one by two
            ((11, 8), (9, 8), (9, 6), (11, 6), (10, 8), (11, 7)),
            # the lower left one by three
            ((0, 8), (0, 6), (2, 6), (2, 8), (0, 7), (1, 8)),
        )
        for places in corners:
            self.hold((0, 3, 3, 6, 3), {
                place: [CORNER, x, y] for place, (x, y) in zip(places, chart_knots)
            })

    def test_met_strip_on_every_side(self):
        # A rug 12 wide and 6 high, counted from the rug's edges and mirrored at the middle.
        self.hold((1, 3, 2, 8, 2), {
            (2, 0): [STRIP, 2, 0], (3, 0): [STRIP, 0, 0], (5, 1): [STRIP, 2, 1], (6, 1): [STRIP, 2, 1],
            (8, 0): [STRIP, 0, 0], (9, 0): [STRIP, 2, 0],
            (11, 2): [STRIP, 2, 0], (10, 2): [STRIP, 2, 1], (11, 3): [STRIP, 2, 0],
            (3, 5): [STRIP, 0, 0], (7, 4): [STRIP, 1, 1],
            (0, 2): [STRIP, 2, 0], (1, 3): [STRIP, 2, 1],
        })

    def test_met_strip_at_every_corner(self):
        self.hold((1, 3, 2, 8, 2), {
            (0, 0): [STRIP, 0, 0], (1, 0): [STRIP, 1, 0], (0, 1): [STRIP, 1, 0], (1, 1): [STRIP, 1, 1],
            (11, 0): [STRIP, 0, 0], (10, 0): [STRIP, 1, 0], (11, 1): [STRIP, 1, 0], (10, 1): [STRIP, 1, 1],
            (11, 5): [STRIP, 0, 0], (10, 5): [STRIP, 1, 0], (11, 4): [STRIP, 1, 0], (10, 4): [STRIP, 1, 1],
            (0, 5): [STRIP, 0, 0], (1, 5): [STRIP, 1, 0], (0, 4): [STRIP, 1, 0], (1, 4): [STRIP, 1, 1],
        })

    def test_run_strip_on_every_side(self):
        # A rug 8 wide and 5 high: 6 knots run along above and below, 3 on the right and left.
        self.hold((2, 3, 2, 4, 1), {
            (0, 0): [STRIP, 0, 0], (2, 1): [STRIP, 2, 1], (3, 0): [STRIP, 0, 0], (5, 1): [STRIP, 2, 1],
            (7, 0): [STRIP, 0, 0], (6, 1): [STRIP, 1, 1], (7, 2): [STRIP, 2, 0],
            (7, 4): [STRIP, 0, 0], (5, 3): [STRIP, 2, 1], (4, 4): [STRIP, 0, 0], (2, 3): [STRIP, 2, 1],
            (0, 4): [STRIP, 0, 0], (1, 3): [STRIP, 1, 1], (0, 2): [STRIP, 2, 0],
        })

    def test_run_strip_at_every_corner(self):
        # Where one strip comes to its end, the next one begins.
        self.hold((2, 3, 2, 4, 1), {
            (0, 1): [STRIP, 0, 1], (1, 0): [STRIP, 1, 0], (1, 1): [STRIP, 1, 1], (0, 2): [STRIP, 2, 0],
            (5, 0): [STRIP, 2, 0], (6, 0): [STRIP, 0, 1], (7, 1): [STRIP, 1, 0],
            (7, 2): [STRIP, 2, 0], (7, 3): [STRIP, 0, 1], (6, 3): [STRIP, 1, 1], (6, 4): [STRIP, 1, 0],
            (2, 4): [STRIP, 2, 0], (1, 4): [STRIP, 0, 1], (0, 3): [STRIP, 1, 0],
        })


class EachKnot(unittest.TestCase):
    """Held against the words, put down a second time in words.py, and against round_of's rug."""

    def told(self, kind, L, h, W, H):
        told = [[from_of(kind, L, h, W, H, x, y) for x in range(W + 2 * h)] for y in range(H + 2 * h)]
        for row in told:
            for answer in row:
                self.assertEqual(answer[0], 0)
        return [[answer[1:] for answer in row] for row in told]

    def hold(self, kind, L, h, W, H):
        told = self.told(kind, L, h, W, H)
        self.assertEqual(told, words.knots(kind, L, h, W, H))
        charts = [chart(W, H, 36), chart(L, h), chart(h, h, 20)]
        seen = [[charts[what][y][x] for what, x, y in row] for row in told]
        corner = text_of(charts[CORNER]) if kind == 0 else []
        rug = round_of(kind, text_of(charts[FIELD]), text_of(charts[STRIP]), corner)
        self.assertEqual(rug[1:], text_of(seen))

    def test_every_small_border_that_fits(self):
        for border in small_borders():
            self.hold(*border)

    def test_larger_borders(self):
        for border in ((0, 5, 6, 15, 25), (0, 7, 1, 7, 7), (0, 3, 9, 3, 6), (0, 1, 30, 1, 1),
                       (1, 5, 7, 26, 46), (1, 9, 4, 10, 10), (1, 4, 13, 6, 14),
                       (2, 5, 6, 14, 29), (2, 19, 9, 10, 10), (2, 7, 13, 1, 8)):
            self.hold(*border)

    def test_each_knot_of_field_strip_and_corner_as_often_as_the_words_have_it(self):
        # In a set border each corner knot stands in four corners, each strip knot once for each strip along the sides.
        often = {}
        for row in self.told(0, 4, 3, 8, 12):
            for knot in row:
                often[tuple(knot)] = often.get(tuple(knot), 0) + 1
        for y in range(12):
            for x in range(8):
                self.assertEqual(often.pop((FIELD, x, y)), 1)
        for y in range(3):
            for x in range(4):
                self.assertEqual(often.pop((STRIP, x, y)), 2 * 2 + 2 * 3)
            for x in range(3):
                self.assertEqual(often.pop((CORNER, x, y)), 4)
        self.assertEqual(often, {})

    def test_the_rugs_of_the_run(self):
        rugs = (
            ((0, 1, 1, 1, 1), ("f", "a", "c"), "cac/afa/cac/"),
            ((0, 2, 1, 2, 2), ("f", "ab", "c"), "cabc/bffa/affb/cbac/"),
            ((1, 2, 1, 2, 2), ("f", "ab", ""), "abba/bffb/bffb/abba/"),
            ((2, 2, 1, 1, 1), ("f", "ab", ""), "aba/bfb/aba/"),
        )
        for border, rows, rug in rugs:
            seen = [[ord(rows[what][0 if what == FIELD else x]) for what, x, y in row] for row in self.told(*border)]
            self.assertEqual(text_of(seen), text(rug))

    def test_larger_than_round_makes_a_rug(self):
        # -8 is round's alone: these rugs are 768 wide and high.
        self.assertEqual(from_of(0, 512, 128, 512, 512, 0, 0), [0, CORNER, 0, 0])
        self.assertEqual(from_of(0, 512, 128, 512, 512, 767, 0), [0, CORNER, 0, 0])
        self.assertEqual(from_of(0, 512, 128, 512, 512, 767, 127), [0, CORNER, 127, 0])
        self.assertEqual(from_of(0, 512, 128, 512, 512, 639, 0), [0, STRIP, 511, 0])
        self.assertEqual(from_of(0, 512, 128, 512, 512, 640, 128), [0, STRIP, 0, 127])
        self.assertEqual(from_of(0, 512, 128, 512, 512, 128, 767), [0, STRIP, 511, 0])
        self.assertEqual(from_of(0, 512, 128, 512, 512, 639, 639), [0, FIELD, 511, 511])
        self.assertEqual(from_of(1, 384, 128, 512, 512, 383, 127), [0, STRIP, 383, 127])
        self.assertEqual(from_of(1, 384, 128, 512, 512, 384, 127), [0, STRIP, 383, 127])
        self.assertEqual(from_of(1, 384, 128, 512, 512, 767, 767), [0, STRIP, 0, 0])
        self.assertEqual(from_of(1, 12, 128, 512, 512, 700, 400), [0, STRIP, 367 % 12, 67])
        self.assertEqual(from_of(2, 320, 128, 512, 512, 639, 127), [0, STRIP, 319, 127])
        self.assertEqual(from_of(2, 320, 128, 512, 512, 640, 127), [0, STRIP, 127, 127])
        self.assertEqual(from_of(2, 320, 128, 512, 512, 767, 767), [0, STRIP, 0, 0])
        self.assertEqual(from_of(2, 320, 128, 512, 512, 0, 128), [0, STRIP, 319, 0])

    def test_a_list_of_whole_numbers_is_answered(self):
        calls = ((0, 2, 1, 2, 2, 1, 1), (0, 2, 1, 2, 2, 0, 0), (1, 2, 1, 2, 2, 0, 1), (2, 2, 1, 1, 1, 2, 2),
                 (3, 2, 1, 2, 2, 1, 1), (0, 2, 1, 3, 2, 1, 1), (0, 2, 1, 2, 2, 4, 4))
        for call in calls:
            told = from_of(*call)
            self.assertIs(type(told), list)
            self.assertEqual({type(number) for number in told}, {int})
            self.assertEqual(len(told), 4 if told[0] == 0 else 1)

    def test_the_same_call_twice_answers_the_same(self):
        first = from_of(2, 3, 2, 4, 1, 6, 1)
        first.append(7)
        first[1] = 9
        self.assertEqual(from_of(0, 3, 2, 6, 3, 6, 1), [0, STRIP, 1, 1])
        self.assertEqual(from_of(2, 3, 2, 4, 1, 99, 1), [-4])
        self.assertEqual(from_of(2, 3, 2, 4, 1, 6, 1), [0, STRIP, 1, 1])


class Refused(unittest.TestCase):
    def test_out_of_bounds(self):
        for kind in (3, 4, 255, LARGEST):
            self.assertEqual(from_of(kind, 1, 1, 6, 6, 0, 0), [-1])
        for kind in range(3):
            for wrong in (0, 513, 1024, LARGEST):
                self.assertEqual(from_of(kind, wrong, 1, 6, 6, 0, 0), [-1])
                self.assertEqual(from_of(kind, 1, 1, wrong, 6, 0, 0), [-1])
                self.assertEqual(from_of(kind, 1, 1, 6, wrong, 0, 0), [-1])
            for h in (0, 129, 512, LARGEST):
                self.assertEqual(from_of(kind, 1, h, 6, 6, 0, 0), [-1])

    def test_the_bounds_themselves_are_answered(self):
        self.assertEqual(from_of(2, 1, 1, 1, 1, 1, 1), [0, FIELD, 0, 0])
        self.assertEqual(from_of(0, 1, 128, 1, 1, 128, 127), [0, STRIP, 0, 127])
        self.assertEqual(from_of(0, 1, 1, 512, 1, 512, 1), [0, FIELD, 511, 0])
        self.assertEqual(from_of(0, 1, 1, 1, 512, 1, 512), [0, FIELD, 0, 511])
        self.assertEqual(from_of(0, 512, 1, 512, 512, 512, 0), [0, STRIP, 511, 0])

    def test_does_not_fit(self):
        for border in ((0, 4, 3, 9, 12), (0, 4, 3, 8, 13), (0, 4, 1, 2, 6), (0, 512, 1, 1, 1),
                       (1, 3, 2, 5, 8), (1, 3, 2, 8, 5), (1, 3, 2, 6, 6), (1, 1, 1, 1, 1),
                       (2, 3, 2, 5, 1), (2, 3, 2, 4, 2), (2, 3, 2, 3, 6), (2, 3, 2, 2, 5)):
            for x, y in ((0, 0), (3, 3)):
                self.assertEqual(from_of(*border, x, y), [-3])

    def test_no_such_knot(self):
        # Rugs 12 wide and 8 high, where W and H are 8 and 4.
        for border in ((0, 4, 2, 8, 4), (1, 2, 2, 8, 4), (2, 2, 2, 8, 4)):
            self.assertEqual(from_of(*border, 11, 7)[0], 0)
            for x in (12, 13, 512, LARGEST):
                self.assertEqual(from_of(*border, x, 0), [-4])
                self.assertEqual(from_of(*border, x, 3), [-4])
                self.assertEqual(from_of(*border, x, 7), [-4])
            for y in (8, 9, 11, 512, LARGEST):
                self.assertEqual(from_of(*border, 0, y), [-4])
                self.assertEqual(from_of(*border, 3, y), [-4])
                self.assertEqual(from_of(*border, 11, y), [-4])
            self.assertEqual(from_of(*border, 12, 8), [-4])
            self.assertEqual(from_of(*border, LARGEST, LARGEST), [-4])

    def test_no_such_knot_in_the_largest_rug(self):
        self.assertEqual(from_of(0, 512, 128, 512, 512, 767, 767), [0, CORNER, 0, 0])
        self.assertEqual(from_of(0, 512, 128, 512, 512, 768, 767), [-4])
        self.assertEqual(from_of(0, 512, 128, 512, 512, 767, 768), [-4])

    def test_out_of_bounds_ahead_of_no_fit(self):
        self.assertEqual(from_of(3, 4, 1, 5, 5, 0, 0), [-1])
        self.assertEqual(from_of(0, 513, 1, 5, 5, 0, 0), [-1])
        self.assertEqual(from_of(0, 4, 129, 5, 5, 0, 0), [-1])
        self.assertEqual(from_of(1, 4, 1, 513, 5, 0, 0), [-1])
        self.assertEqual(from_of(2, 4, 1, 5, 513, 0, 0), [-1])

    def test_out_of_bounds_ahead_of_no_such_knot(self):
        for x, y in ((LARGEST, 0), (0, LARGEST), (LARGEST, LARGEST)):
            self.assertEqual(from_of(3, 1, 1, 6, 6, x, y), [-1])
            self.assertEqual(from_of(0, 0, 1, 6, 6, x, y), [-1])
            self.assertEqual(from_of(0, 1, 0, 6, 6, x, y), [-1])
            self.assertEqual(from_of(1, 1, 1, 0, 6, x, y), [-1])
            self.assertEqual(from_of(2, 1, 1, 6, 0, x, y), [-1])

    def test_no_fit_ahead_of_no_such_knot(self):
        for x, y in ((12, 0), (0, 12), (LARGEST, 0), (0, LARGEST), (LARGEST, LARGEST)):
            self.assertEqual(from_of(0, 4, 1, 5, 4, x, y), [-3])
            self.assertEqual(from_of(1, 3, 2, 8, 5, x, y), [-3])
            self.assertEqual(from_of(2, 3, 2, 5, 1, x, y), [-3])

    def test_the_largest_number_in_every_place(self):
        call = [0, 2, 1, 2, 2, 1, 1]
        self.assertEqual(from_of(*call), [0, FIELD, 0, 0])
        for place, refusal in enumerate((-1, -1, -1, -1, -1, -4, -4)):
            self.assertEqual(from_of(*call[:place], LARGEST, *call[place + 1:]), [refusal])
        self.assertEqual(from_of(*[LARGEST] * 7), [-1])

    def test_all_the_least(self):
        self.assertEqual(from_of(*[0] * 7), [-1])


if __name__ == "__main__":
    unittest.main()
