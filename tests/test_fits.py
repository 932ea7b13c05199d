"""fits: 'It fits' for each kind, and its refusals (promise 1)."""

import unittest

from rugborders.borders import fits

LARGEST = 4294967295


class ItFits(unittest.TestCase):
    def test_set_fits_by_the_field(self):
        self.assertEqual(fits(0, 4, 3, 8, 12), [1])
        self.assertEqual(fits(0, 1, 5, 7, 11), [1])
        self.assertEqual(fits(0, 7, 1, 7, 7), [1])

    def test_set_does_not_fit(self):
        self.assertEqual(fits(0, 4, 3, 9, 12), [0])
        self.assertEqual(fits(0, 4, 3, 8, 13), [0])
        self.assertEqual(fits(0, 4, 3, 9, 13), [0])
        self.assertEqual(fits(0, 8, 1, 4, 4), [0])

    def test_set_does_not_fit_by_the_rug(self):
        # 4 divides Wo = 4 and Ho = 8, and W + h = 4 and H + h = 8 with h = 2.
        self.assertEqual(fits(0, 4, 1, 2, 6), [0])
        self.assertEqual(fits(0, 4, 2, 2, 6), [0])

    def test_met_fits_by_the_rug(self):
        self.assertEqual(fits(1, 3, 2, 8, 2), [1])
        self.assertEqual(fits(1, 3, 2, 2, 8), [1])
        self.assertEqual(fits(1, 2, 1, 2, 2), [1])

    def test_met_does_not_fit(self):
        self.assertEqual(fits(1, 3, 2, 9, 2), [0])
        self.assertEqual(fits(1, 3, 2, 8, 3), [0])
        self.assertEqual(fits(1, 3, 2, 6, 6), [0])

    def test_met_does_not_fit_by_the_strip_once(self):
        # 3 divides Wo and Ho, of which one or both are 9.
        self.assertEqual(fits(1, 3, 2, 5, 5), [0])
        self.assertEqual(fits(1, 3, 2, 8, 5), [0])
        self.assertEqual(fits(1, 3, 2, 5, 8), [0])
        self.assertEqual(fits(1, 1, 1, 1, 1), [0])

    def test_run_fits_by_the_field_and_one_depth(self):
        self.assertEqual(fits(2, 3, 2, 4, 1), [1])
        self.assertEqual(fits(2, 3, 2, 1, 4), [1])
        self.assertEqual(fits(2, 2, 1, 1, 1), [1])

    def test_run_does_not_fit(self):
        self.assertEqual(fits(2, 3, 2, 5, 1), [0])
        self.assertEqual(fits(2, 3, 2, 4, 2), [0])
        # 3 divides W and H; 3 divides Wo and Ho.
        self.assertEqual(fits(2, 3, 2, 3, 6), [0])
        self.assertEqual(fits(2, 3, 2, 2, 5), [0])

    def test_every_small_border_by_the_words(self):
        for L in range(1, 7):
            for h in range(1, 6):
                for W in range(1, 14):
                    for H in range(1, 14):
                        Wo, Ho = W + 2 * h, H + 2 * h
                        told = [fits(kind, L, h, W, H) for kind in range(3)]
                        self.assertEqual(told[0], [int(W % L == 0 and H % L == 0)])
                        self.assertEqual(told[1], [int(Wo % (2 * L) == 0 and Ho % (2 * L) == 0)])
                        self.assertEqual(told[2], [int((W + h) % L == 0 and (H + h) % L == 0)])

    def test_a_whole_number_is_answered(self):
        for told in (fits(0, 1, 1, 1, 1), fits(0, 2, 1, 1, 1), fits(3, 1, 1, 1, 1)):
            self.assertIs(type(told), list)
            self.assertEqual([type(number) for number in told], [int])

    def test_the_same_call_twice_answers_the_same(self):
        first = fits(1, 3, 2, 8, 2)
        first.append(7)
        self.assertEqual(fits(1, 3, 2, 8, 3), [0])
        self.assertEqual(fits(3, 3, 2, 8, 2), [-1])
        self.assertEqual(fits(1, 3, 2, 8, 2), [1])


class Refused(unittest.TestCase):
    def test_kind(self):
        self.assertEqual(fits(2, 1, 1, 1, 1), [1])
        for kind in (3, 4, 255, LARGEST):
            self.assertEqual(fits(kind, 1, 1, 1, 1), [-1])

    def test_length(self):
        for kind in range(3):
            for L in (0, 513, 1024, LARGEST):
                self.assertEqual(fits(kind, L, 1, 6, 6), [-1])

    def test_width(self):
        for kind in range(3):
            for W in (0, 513, 1024, LARGEST):
                self.assertEqual(fits(kind, 1, 1, W, 6), [-1])

    def test_height(self):
        for kind in range(3):
            for H in (0, 513, 1024, LARGEST):
                self.assertEqual(fits(kind, 1, 1, 6, H), [-1])

    def test_depth(self):
        for kind in range(3):
            for h in (0, 129, 512, LARGEST):
                self.assertEqual(fits(kind, 1, h, 6, 6), [-1])

    def test_refused_where_it_would_not_fit_either(self):
        self.assertEqual(fits(0, 4, 129, 5, 5), [-1])
        self.assertEqual(fits(1, 4, 1, 5, 513), [-1])
        self.assertEqual(fits(2, 513, 1, 5, 5), [-1])

    def test_all_the_largest(self):
        self.assertEqual(fits(LARGEST, LARGEST, LARGEST, LARGEST, LARGEST), [-1])

    def test_all_the_least(self):
        self.assertEqual(fits(0, 0, 0, 0, 0), [-1])

    def test_the_bounds_themselves_are_answered(self):
        self.assertEqual(fits(0, 512, 128, 512, 512), [1])
        self.assertEqual(fits(1, 512, 128, 512, 512), [0])
        self.assertEqual(fits(2, 512, 128, 512, 512), [0])
        self.assertEqual(fits(1, 384, 128, 512, 512), [1])
        self.assertEqual(fits(2, 320, 128, 512, 512), [1])
        self.assertEqual(fits(1, 512, 128, 256, 256), [0])
        self.assertEqual(fits(2, 512, 128, 384, 384), [1])
        self.assertEqual(fits(0, 512, 1, 1, 1), [0])
        self.assertEqual(fits(0, 1, 1, 512, 1), [1])
        self.assertEqual(fits(0, 1, 1, 1, 512), [1])
        self.assertEqual(fits(0, 1, 128, 1, 1), [1])


if __name__ == "__main__":
    unittest.main()
