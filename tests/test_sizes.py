"""sizes: the least sizes that fit (promise 5), and its refusals (promise 1)."""

import unittest
from itertools import product
from random import Random

from rugborders.borders import fits, sizes
from words import LARGEST, AnswersSoon, KeepsNothing, it_fits

# Any least size: 1 knot, in steps of 1.
ANY = (1, 1, 1, 1)


def threes(borders):
    return [borders[at:at + 3] for at in range(0, len(borders), 3)]


def whole(side, borders):
    return side + 2 * sum(h for kind, L, h in threes(borders))


def all_fit(W0, H0, borders):
    """Whether all the borders fit, one after another, by the call fits."""
    for kind, L, h in threes(borders):
        if max(W0, H0) > 512 or fits(kind, L, h, W0, H0) != [1]:
            return False
        W0, H0 = W0 + 2 * h, H0 + 2 * h
    return max(W0, H0) <= 512


def least(step, size, borders):
    """The least side told, by the words, or None: every number that could be is tried."""
    for side in range(1, 513):
        if side % step == 0 and side >= size and whole(side, borders) <= 512:
            sides = [whole(side, borders[:at]) for at in range(0, len(borders), 3)]
            if all(it_fits(kind, L, h, within, within) for (kind, L, h), within in zip(threes(borders), sides)):
                return side
    return None


class ByHand(unittest.TestCase):
    def test_the_run(self):
        self.assertEqual(sizes(2, 1, 5, 1, [0, 4, 1, 2, 3, 2]), [0, 8, 8])

    def test_no_borders(self):
        self.assertEqual(sizes(1, 1, 1, 1, []), [0, 1, 1])
        self.assertEqual(sizes(1, 1, 5, 7, []), [0, 5, 7])
        self.assertEqual(sizes(4, 6, 5, 7, []), [0, 8, 12])
        self.assertEqual(sizes(4, 6, 4, 6, []), [0, 4, 6])
        self.assertEqual(sizes(4, 6, 1, 1, []), [0, 4, 6])
        self.assertEqual(sizes(1, 1, 512, 512, []), [0, 512, 512])
        self.assertEqual(sizes(512, 256, 1, 257, []), [0, 512, 512])

    def test_one_set_border(self):
        # Of the sides that 4 divides.
        self.assertEqual(sizes(1, 1, 1, 5, [0, 4, 3]), [0, 4, 8])
        self.assertEqual(sizes(1, 1, 4, 8, [0, 4, 3]), [0, 4, 8])
        self.assertEqual(sizes(6, 10, 1, 1, [0, 4, 3]), [0, 12, 20])

    def test_one_met_border(self):
        # Of 2, 8, 14 and so on, which are 6, 12, 18 with the border.
        self.assertEqual(sizes(1, 1, 1, 3, [1, 3, 2]), [0, 2, 8])
        self.assertEqual(sizes(1, 1, 8, 9, [1, 3, 2]), [0, 8, 14])
        self.assertEqual(sizes(4, 7, 1, 1, [1, 3, 2]), [0, 8, 14])

    def test_one_run_border(self):
        # Of 1, 4, 7 and so on, which are 3, 6, 9 with one side's depth.
        self.assertEqual(sizes(1, 1, 1, 2, [2, 3, 2]), [0, 1, 4])
        self.assertEqual(sizes(1, 1, 4, 5, [2, 3, 2]), [0, 4, 7])
        self.assertEqual(sizes(2, 5, 1, 1, [2, 3, 2]), [0, 4, 10])

    def test_a_size_that_fits_the_innermost_alone_is_passed_over(self):
        # 4 with its border is 6, and 6 + 2 is not divided by 3; 8 with its border is 10, and 12 is.
        self.assertEqual(sizes(*ANY, [0, 4, 1]), [0, 4, 4])
        self.assertEqual(sizes(*ANY, [0, 4, 1, 2, 3, 2]), [0, 8, 8])
        # Any fits the first, and what's even the next.
        self.assertEqual(sizes(*ANY, [2, 1, 1, 1, 1, 2]), [0, 2, 2])
        # What's odd fits the first, 3, 13, 23 and so on the next; 43, with 6 more, the last.
        self.assertEqual(sizes(*ANY, [2, 2, 1, 0, 5, 2]), [0, 3, 3])
        self.assertEqual(sizes(*ANY, [2, 2, 1, 0, 5, 2, 0, 7, 4]), [0, 43, 43])

    def test_the_outer_border_goes_round_what_is_within(self):
        # By the field alone 3 would do; by what's within, 4 is the least of which 4 + 2 is divided by 3.
        self.assertEqual(sizes(*ANY, [0, 1, 1, 0, 3, 1]), [0, 1, 1])
        self.assertEqual(sizes(*ANY, [0, 1, 2, 0, 3, 1]), [0, 2, 2])
        self.assertEqual(sizes(1, 1, 2, 3, [0, 1, 1, 0, 3, 1]), [0, 4, 4])

    def test_the_order_of_the_borders_matters(self):
        self.assertEqual(sizes(*ANY, [0, 5, 1, 0, 4, 3]), [0, 10, 10])
        self.assertEqual(sizes(*ANY, [0, 4, 3, 0, 5, 1]), [0, 4, 4])
        self.assertEqual(sizes(*ANY, [0, 4, 1, 0, 5, 3]), [0, 8, 8])

    def test_width_and_height_are_told_apart_from_one_another(self):
        borders = [0, 4, 1, 2, 3, 2]
        # Of 8, 20, 32, 44 and so on.
        self.assertEqual(sizes(1, 1, 9, 1, borders), [0, 20, 8])
        self.assertEqual(sizes(1, 1, 1, 9, borders), [0, 8, 20])
        self.assertEqual(sizes(5, 1, 1, 1, borders), [0, 20, 8])
        self.assertEqual(sizes(1, 5, 1, 1, borders), [0, 8, 20])
        self.assertEqual(sizes(11, 16, 21, 9, borders), [0, 44, 32])
        self.assertEqual(sizes(1, 1, 21, 33, borders), [0, 32, 44])

    def test_several_of_mixed_kinds(self):
        # 6 comes to 8 (run: 7), to 14 (met: 14) and to 18 (set: 14).
        self.assertEqual(sizes(*ANY, [2, 7, 1, 1, 7, 3, 0, 7, 2]), [0, 6, 6])
        self.assertEqual(sizes(1, 1, 7, 6, [2, 7, 1, 1, 7, 3, 0, 7, 2]), [0, 20, 6])
        self.assertEqual(sizes(4, 1, 7, 21, [2, 7, 1, 1, 7, 3, 0, 7, 2]), [0, 20, 34])


class TheWholeIsAtMost512(unittest.TestCase):
    def test_one_border(self):
        for kind in (0, 2):
            self.assertEqual(sizes(1, 1, 510, 510, [kind, 1, 1]), [0, 510, 510])
            self.assertEqual(sizes(1, 1, 511, 1, [kind, 1, 1]), [-5])
            self.assertEqual(sizes(1, 1, 1, 511, [kind, 1, 1]), [-5])
            self.assertEqual(sizes(1, 1, 512, 512, [kind, 1, 1]), [-5])
            self.assertEqual(sizes(1, 1, 256, 256, [kind, 1, 128]), [0, 256, 256])
            self.assertEqual(sizes(1, 1, 257, 256, [kind, 1, 128]), [-5])
            self.assertEqual(sizes(1, 1, 256, 257, [kind, 1, 128]), [-5])
        self.assertEqual(sizes(1, 1, 509, 510, [1, 1, 1]), [0, 510, 510])
        self.assertEqual(sizes(1, 1, 511, 1, [1, 1, 1]), [-5])

    def test_the_longest_strips_that_fit(self):
        self.assertEqual(sizes(*ANY, [0, 510, 1]), [0, 510, 510])
        self.assertEqual(sizes(*ANY, [0, 511, 1]), [-5])
        self.assertEqual(sizes(*ANY, [0, 512, 1]), [-5])
        self.assertEqual(sizes(*ANY, [1, 256, 1]), [0, 510, 510])
        self.assertEqual(sizes(*ANY, [1, 257, 1]), [-5])
        self.assertEqual(sizes(*ANY, [1, 512, 1]), [-5])
        self.assertEqual(sizes(*ANY, [2, 511, 1]), [0, 510, 510])
        self.assertEqual(sizes(*ANY, [2, 512, 1]), [-5])
        self.assertEqual(sizes(*ANY, [0, 256, 128]), [0, 256, 256])
        self.assertEqual(sizes(*ANY, [1, 256, 128]), [0, 256, 256])
        self.assertEqual(sizes(*ANY, [2, 384, 128]), [0, 256, 256])
        self.assertEqual(sizes(*ANY, [2, 385, 128]), [-5])

    def test_several_borders(self):
        # 2 (10 + 20 + 30) = 120 for the borders.
        borders = [0, 1, 10, 2, 1, 20, 0, 1, 30]
        self.assertEqual(sizes(1, 1, 392, 392, borders), [0, 392, 392])
        self.assertEqual(sizes(1, 1, 393, 392, borders), [-5])
        self.assertEqual(sizes(1, 1, 392, 393, borders), [-5])
        self.assertEqual(sizes(7, 7, 386, 380, borders), [0, 392, 385])
        self.assertEqual(sizes(9, 7, 388, 380, borders), [-5])

    def test_more_knots_than_a_chart_has(self):
        # The words ask for 512 each way at most, of what's whole, and nothing of how many knots that is.
        self.assertEqual(sizes(1, 1, 500, 500, [0, 5, 2]), [0, 500, 500])

    def test_sixteen_borders(self):
        self.assertEqual(sizes(1, 1, 32, 32, [0, 1, 15] * 16), [0, 32, 32])
        self.assertEqual(sizes(1, 1, 33, 1, [0, 1, 15] * 16), [-5])
        self.assertEqual(sizes(1, 1, 1, 33, [2, 1, 15] * 16), [-5])
        self.assertEqual(sizes(*ANY, [0, 1, 16] * 16), [-5])
        self.assertEqual(sizes(*ANY, [0, 1, 128] * 16), [-5])
        self.assertEqual(sizes(1, 1, 1, 2, [1, 1, 1] * 16), [0, 2, 2])
        # The last one alone keeps 1 and 2 from being told.
        self.assertEqual(sizes(*ANY, [0, 1, 1] * 15 + [0, 33, 1]), [0, 3, 3])
        self.assertEqual(sizes(1, 1, 4, 37, [0, 1, 1] * 15 + [0, 33, 1]), [0, 36, 69])


class NoneThatFits(unittest.TestCase):
    def test_in_the_width_alone(self):
        self.assertEqual(sizes(500, 1, 501, 1, []), [-5])
        self.assertEqual(sizes(1, 1, 505, 1, [0, 7, 5]), [-5])
        self.assertEqual(sizes(2, 1, 1, 1, [2, 2, 1]), [-5])

    def test_in_the_height_alone(self):
        self.assertEqual(sizes(1, 500, 1, 501, []), [-5])
        self.assertEqual(sizes(1, 1, 1, 505, [0, 7, 5]), [-5])
        self.assertEqual(sizes(1, 2, 1, 1, [2, 2, 1]), [-5])

    def test_in_both(self):
        self.assertEqual(sizes(500, 500, 501, 501, []), [-5])
        # What's within is even, so that it's odd with one side's depth.
        self.assertEqual(sizes(*ANY, [0, 2, 1, 2, 2, 1]), [-5])
        self.assertEqual(sizes(2, 2, 1, 1, [2, 2, 1]), [-5])

    def test_but_for_the_step_or_the_least_size(self):
        self.assertEqual(sizes(1, 1, 1, 1, [2, 2, 1]), [0, 1, 1])
        self.assertEqual(sizes(257, 1, 1, 1, [0, 1, 1]), [0, 257, 1])
        self.assertEqual(sizes(257, 1, 258, 1, [0, 1, 1]), [-5])
        self.assertEqual(sizes(511, 1, 1, 1, [0, 1, 1]), [-5])


class SizesTold(unittest.TestCase):
    """Promise 5: they fit, and none less do."""

    def hold(self, p, q, W, H, borders):
        told = sizes(p, q, W, H, borders)
        expected = (least(p, W, borders), least(q, H, borders))
        if None in expected:
            self.assertEqual(told, [-5], (p, q, W, H, borders))
            return
        self.assertEqual(told, [0, *expected], (p, q, W, H, borders))
        W0, H0 = expected
        self.assertTrue(all_fit(W0, H0, borders))
        for less in range(p, W0, p):
            self.assertFalse(less >= W and all_fit(less, H0, borders))
        for less in range(q, H0, q):
            self.assertFalse(less >= H and all_fit(W0, less, borders))

    def test_every_small_border(self):
        for border in product(range(3), range(1, 8), range(1, 5)):
            for p, q, W, H in ((1, 1, 1, 1), (2, 3, 4, 5), (1, 4, 13, 1), (5, 1, 2, 9)):
                self.hold(p, q, W, H, list(border))

    def test_two_small_borders(self):
        small = list(product(range(3), (1, 2, 3, 5), (1, 2)))
        for inner, outer in product(small, repeat=2):
            self.hold(1, 2, 3, 1, list(inner + outer))

    def test_borders_by_chance(self):
        chance = Random(3)
        answered = 0
        for _ in range(600):
            borders = []
            for _ in range(chance.randint(0, 6)):
                borders += [chance.randrange(3), chance.choice((1, 2, 3, 4, 5, 6, 8, 12)), chance.randint(1, 12)]
            call = [chance.choice((1, 1, 2, 3, 4, 5)) for _ in range(2)] + [chance.randint(1, 60) for _ in range(2)]
            self.hold(*call, borders)
            answered += sizes(*call, borders) != [-5]
        self.assertGreater(answered, 100)

    def test_sixteen_borders_by_chance(self):
        chance = Random(4)
        answered = 0
        for _ in range(100):
            borders = []
            for _ in range(16):
                borders += [chance.choice((0, 2)), chance.choice((1, 1, 1, 1, 1, 1, 2, 3)), chance.randint(1, 3)]
            self.hold(1, 1, chance.randint(1, 400), chance.randint(1, 400), borders)
            answered += sizes(1, 1, 1, 1, borders) != [-5]
        self.assertGreater(answered, 10)


class Refused(unittest.TestCase):
    def test_more_than_48_numbers_of_borders(self):
        self.assertEqual(sizes(*ANY, [0, 1, 1] * 16), [0, 1, 1])
        for many in range(49, 61):
            self.assertEqual(sizes(*ANY, ([0, 1, 1] * 20)[:many]), [-2])
            self.assertEqual(sizes(*ANY, [1] * many), [-2])
            self.assertEqual(sizes(*ANY, [LARGEST] * many), [-2])

    def test_steps_and_least_sizes(self):
        for borders in ([], [0, 1, 1], [1, 3, 2, 2, 2, 2]):
            call = [1, 2, 3, 4]
            self.assertEqual(sizes(*call, borders)[0], 0)
            for place in range(4):
                for wrong in (0, 513, 1024, 2147483648, LARGEST):
                    self.assertEqual(sizes(*call[:place], wrong, *call[place + 1:], borders), [-1])

    def test_numbers_of_a_border(self):
        wrong_ones = ((3, 4, 255, LARGEST), (0, 513, 1024, LARGEST), (0, 129, 512, LARGEST))
        for many in (1, 2, 5, 16):
            borders = [0, 1, 1, 2, 1, 2][:3 * many] if many < 3 else [0, 1, 1] * many
            self.assertEqual(sizes(*ANY, borders), [0, 1, 1])
            for place in range(len(borders)):
                for wrong in wrong_ones[place % 3]:
                    self.assertEqual(sizes(*ANY, borders[:place] + [wrong] + borders[place + 1:]), [-1])

    def test_the_bounds_themselves_are_answered(self):
        self.assertEqual(sizes(512, 512, 512, 512, []), [0, 512, 512])
        self.assertEqual(sizes(*ANY, [0, 1, 128]), [0, 1, 1])
        self.assertEqual(sizes(*ANY, [2, 1, 128]), [0, 1, 1])
        self.assertEqual(sizes(*ANY, [2, 512, 128]), [-5])

    def test_a_border_cut_short(self):
        for many in range(1, 48):
            told = [0, 1, 1] if many % 3 == 0 else [-1]
            self.assertEqual(sizes(*ANY, ([0, 1, 1] * 16)[:many]), told)
        self.assertEqual(sizes(*ANY, [0]), [-1])
        self.assertEqual(sizes(*ANY, [0, 4]), [-1])
        self.assertEqual(sizes(*ANY, [0, 4, 1, 2]), [-1])
        self.assertEqual(sizes(*ANY, [0, 4, 1, 2, 3]), [-1])

    def test_too_many_ahead_of_out_of_bounds(self):
        for call in ((0, 1, 1, 1), (1, 513, 1, 1), (1, 1, 0, 1), (1, 1, 1, LARGEST), (LARGEST,) * 4):
            self.assertEqual(sizes(*call, [0, 1, 1] * 17), [-2])
            self.assertEqual(sizes(*call, [0] * 49), [-2])
        self.assertEqual(sizes(*ANY, [3, 1, 1] * 17), [-2])
        self.assertEqual(sizes(*ANY, [0, 1, 1] * 16 + [0]), [-2])

    def test_too_many_ahead_of_none(self):
        self.assertEqual(sizes(*ANY, [0, 1, 16] * 17), [-2])

    def test_out_of_bounds_ahead_of_none(self):
        none = [0, 2, 1, 2, 2, 1]
        self.assertEqual(sizes(*ANY, none), [-5])
        for call in ((0, 1, 1, 1), (1, 0, 1, 1), (1, 1, 513, 1), (1, 1, 1, 513)):
            self.assertEqual(sizes(*call, none), [-1])
        for more in ([0], [0, 1], [3, 1, 1], [0, 0, 1], [0, 513, 1], [0, 1, 0], [0, 1, 129]):
            self.assertEqual(sizes(*ANY, none + more), [-1])
            self.assertEqual(sizes(*ANY, more[:3] + none), [-1])
        self.assertEqual(sizes(*ANY, [0, 1, 128] * 3 + [0, 1, 129]), [-1])

    def test_the_largest_number_in_every_place(self):
        call = [1, 1, 1, 1, 0, 1, 1, 2, 1, 1]
        self.assertEqual(sizes(*call[:4], call[4:]), [0, 1, 1])
        for place in range(len(call)):
            wrong = call[:place] + [LARGEST] + call[place + 1:]
            self.assertEqual(sizes(*wrong[:4], wrong[4:]), [-1])
        self.assertEqual(sizes(*[LARGEST] * 4, [LARGEST] * 48), [-1])
        self.assertEqual(sizes(*[LARGEST] * 4, [LARGEST] * 60), [-2])
        self.assertEqual(sizes(0, 0, 0, 0, [0] * 48), [-1])


class TheMostBorders(AnswersSoon, unittest.TestCase):
    def test_sixteen(self):
        for border in ([0, 1, 1], [2, 3, 1], [1, 7, 128], [2, 512, 15]):
            self.soon(sizes, *ANY, border * 16)


class HandedIn(KeepsNothing, unittest.TestCase):
    function = staticmethod(sizes)

    def calls(self):
        return [
            (2, 1, 5, 1, [0, 4, 1, 2, 3, 2]),
            (1, 1, 1, 1, []),
            (1, 1, 1, 1, [0, 1, 1] * 16),
            (1, 1, 1, 1, [0, 1, 1] * 20),
            (1, 1, 1, 1, [0, 1, 1, 2]),
            (1, 1, 1, 1, [0, 1, 1, 3, 1, 1]),
            (0, 1, 1, 1, [0, 1, 1]),
            (1, 1, 1, 1, [0, 2, 1, 2, 2, 1]),
        ]


if __name__ == "__main__":
    unittest.main()
