"""round_of: its refusals, their edges and their order (promise 1)."""

import unittest

from rugborders.borders import round_of
from words import NO_CHARTS, answer, plain, text

LARGEST = 4294967295

FIELD = text("ff/ff/")
STRIP = text("ab/")
CORNER = text("c/")


class TooLong(unittest.TestCase):
    def test_66049_bytes(self):
        long = plain(128, 512) + [97]
        self.assertEqual(len(long), 66049)
        self.assertEqual(round_of(0, long, STRIP, CORNER), [-2])
        self.assertEqual(round_of(0, FIELD, long, CORNER), [-2])
        self.assertEqual(round_of(0, FIELD, STRIP, long), [-2])
        self.assertEqual(round_of(1, FIELD, STRIP, long), [-2])

    def test_70000_bytes(self):
        for byte in (0, 10, 97, 255):
            long = [byte] * 70000
            self.assertEqual(round_of(0, long, STRIP, CORNER), [-2])
            self.assertEqual(round_of(0, FIELD, long, CORNER), [-2])
            self.assertEqual(round_of(0, FIELD, STRIP, long), [-2])
            self.assertEqual(round_of(LARGEST, long, long, long), [-2])

    def test_66048_bytes_are_not_too_long(self):
        longest = plain(128, 512)
        self.assertEqual(len(longest), 66048)
        self.assertEqual(round_of(0, longest, STRIP, CORNER), [-8])
        self.assertEqual(round_of(0, FIELD, longest, CORNER), [-1])
        self.assertEqual(round_of(0, FIELD, STRIP, longest), [-1])


class NoRightChart(unittest.TestCase):
    def test_field(self):
        for name, wrong in NO_CHARTS.items():
            with self.subTest(name):
                self.assertEqual(round_of(0, wrong, STRIP, CORNER), [-6])
                self.assertEqual(round_of(1, wrong, STRIP, []), [-6])

    def test_strip(self):
        for name, wrong in NO_CHARTS.items():
            with self.subTest(name):
                self.assertEqual(round_of(0, FIELD, wrong, CORNER), [-6])
                self.assertEqual(round_of(2, FIELD, wrong, []), [-6])

    def test_corner(self):
        for name, wrong in NO_CHARTS.items():
            with self.subTest(name):
                for kind in (0, 1, 2, 3):
                    self.assertEqual(round_of(kind, FIELD, STRIP, wrong), [-6])

    def test_no_bytes(self):
        self.assertEqual(round_of(0, [], STRIP, CORNER), [-6])
        self.assertEqual(round_of(0, FIELD, [], CORNER), [-6])
        self.assertEqual(round_of(1, [], STRIP, []), [-6])
        self.assertEqual(round_of(1, FIELD, [], []), [-6])
        self.assertEqual(round_of(1, [], [], []), [-6])

    def test_no_colour(self):
        colours = list(range(97, 123)) + list(range(65, 91)) + list(range(48, 58))
        for byte in range(256):
            if byte not in colours and byte != 10:
                self.assertEqual(round_of(0, [102, byte, 10, 102, 102, 10], STRIP, CORNER), [-6])
                self.assertEqual(round_of(0, FIELD, [byte, 97, 10], CORNER), [-6])
                self.assertEqual(round_of(0, FIELD, STRIP, [byte, 10]), [-6])
                self.assertEqual(round_of(0, FIELD + [byte], STRIP, CORNER), [-6])

    def test_no_end_of_a_row_but_byte_10(self):
        for byte in range(256):
            if byte != 10:
                self.assertEqual(round_of(0, [102, 102, byte, 102, 102, byte], STRIP, CORNER), [-6])
                self.assertEqual(round_of(0, [102, 102, byte, 102, 102, 10], text("a/"), CORNER), self.one_row_of(byte))
                self.assertEqual(round_of(0, FIELD, [97, 98, byte], CORNER), [-6])
                self.assertEqual(round_of(0, FIELD, STRIP, [99, byte]), [-6])

    def one_row_of(self, byte):
        """The rug of a row of five knots, the third of which is the byte, if that's a colour."""
        if not chr(byte).isalnum() or byte > 127:
            return [-6]
        return answer("caaaaac/affsffa/caaaaac/".replace("s", chr(byte)))

    def test_right_charts_at_the_edge(self):
        for field in (plain(512, 128), plain(128, 512), plain(256, 256), plain(512, 1), plain(1, 512)):
            self.assertEqual(round_of(0, field, text("a/"), CORNER), [-8])
        self.assertEqual(round_of(2, FIELD, plain(512, 128), []), [-3])
        self.assertEqual(round_of(2, FIELD, plain(512, 1), []), [-3])
        self.assertEqual(round_of(2, FIELD, plain(1, 512), []), [-1])


class OutOfBounds(unittest.TestCase):
    def test_kind(self):
        for kind in (3, 4, 256, LARGEST):
            self.assertEqual(round_of(kind, FIELD, STRIP, CORNER), [-1])
            self.assertEqual(round_of(kind, FIELD, STRIP, []), [-1])

    def test_depth(self):
        self.assertEqual(round_of(0, text("f/"), plain(1, 129), plain(129, 129)), [-1])
        self.assertEqual(round_of(1, text("f/"), plain(1, 129), []), [-1])
        self.assertEqual(round_of(2, text("f/"), plain(1, 129), []), [-1])
        self.assertEqual(round_of(2, text("f/"), plain(1, 512), []), [-1])

    def test_a_depth_of_128_is_not_out_of_bounds(self):
        # The least rug so deep, 257 by 257, has more than 65,536 knots.
        self.assertEqual(round_of(0, text("f/"), plain(1, 128), plain(128, 128)), [-8])
        self.assertEqual(round_of(1, text("ff/ff/"), plain(1, 128), []), [-8])
        self.assertEqual(round_of(2, text("f/"), plain(1, 128), []), [-8])
        self.assertEqual(round_of(0, text("f/"), plain(1, 127), plain(127, 127))[0], 255 * 256)

    def test_a_corner_with_a_kind_that_has_none(self):
        self.assertEqual(round_of(1, FIELD, STRIP, CORNER), [-1])
        self.assertEqual(round_of(2, text("f/"), STRIP, CORNER), [-1])
        self.assertEqual(round_of(2, text("f/"), STRIP, text("cc/cc/")), [-1])

    def test_no_corner_with_a_set_border(self):
        self.assertEqual(round_of(0, FIELD, STRIP, []), [-1])

    def test_a_corner_of_another_size(self):
        for corner in ("c/", "cc/", "c/c/", "ccc/ccc/ccc/", "ccc/ccc/", "cc/cc/cc/", "cccc/"):
            self.assertEqual(round_of(0, FIELD, text("ab/ab/"), text(corner)), [-1])
        for corner in ("cc/", "c/c/", "cc/cc/"):
            self.assertEqual(round_of(0, FIELD, STRIP, text(corner)), [-1])
        # As high as the strip is long, but not as it is high.
        self.assertEqual(round_of(0, text("fff/fff/fff/"), text("abc/abc/"), text("ccc/ccc/ccc/")), [-1])


class DoesNotFit(unittest.TestCase):
    def test_set(self):
        self.assertEqual(round_of(0, plain(3, 2), STRIP, CORNER), [-3])
        self.assertEqual(round_of(0, plain(2, 3), STRIP, CORNER), [-3])
        # The strip's length divides the rug's sides, 4 and 8.
        self.assertEqual(round_of(0, plain(2, 6), plain(4, 1), CORNER), [-3])

    def test_met(self):
        self.assertEqual(round_of(1, plain(3, 2), STRIP, []), [-3])
        self.assertEqual(round_of(1, plain(2, 3), STRIP, []), [-3])
        # The strip's length, but not twice that, divides the rug's sides.
        self.assertEqual(round_of(1, plain(4, 4), STRIP, []), [-3])
        self.assertEqual(round_of(1, plain(4, 2), STRIP, []), [-3])
        self.assertEqual(round_of(1, plain(2, 4), STRIP, []), [-3])

    def test_run(self):
        self.assertEqual(round_of(2, plain(2, 1), STRIP, []), [-3])
        self.assertEqual(round_of(2, plain(1, 2), STRIP, []), [-3])
        self.assertEqual(round_of(2, plain(2, 2), STRIP, []), [-3])


class RugTooLarge(unittest.TestCase):
    def test_513_wide_or_high(self):
        self.assertEqual(round_of(0, plain(511, 1), text("a/"), CORNER), [-8])
        self.assertEqual(round_of(0, plain(1, 511), text("a/"), CORNER), [-8])
        self.assertEqual(round_of(2, plain(511, 1), text("ab/"), []), [-8])
        self.assertEqual(round_of(2, plain(1, 511), text("ab/"), []), [-8])

    def test_514_wide_or_high(self):
        self.assertEqual(round_of(1, plain(512, 2), text("a/"), []), [-8])
        self.assertEqual(round_of(1, plain(2, 512), text("a/"), []), [-8])

    def test_512_wide_or_high_is_answered(self):
        self.assertEqual(round_of(0, plain(510, 1), text("a/"), CORNER)[0], 513 * 3)
        self.assertEqual(round_of(0, plain(1, 510), text("a/"), CORNER)[0], 4 * 512)

    def test_more_than_65536_knots(self):
        # 331 by 198 are 65,538.
        self.assertEqual(round_of(0, plain(329, 196), text("a/"), CORNER), [-8])
        self.assertEqual(round_of(0, plain(196, 329), text("a/"), CORNER), [-8])
        self.assertEqual(round_of(2, plain(329, 196), text("a/"), []), [-8])
        self.assertEqual(round_of(1, plain(510, 128), text("a/"), []), [-8])

    def test_65536_knots_are_answered(self):
        self.assertEqual(round_of(0, plain(254, 254), text("a/"), CORNER)[0], 257 * 256)
        self.assertEqual(round_of(1, plain(510, 126), text("a/"), [])[0], 513 * 128)
        self.assertEqual(round_of(2, plain(126, 510), text("a/"), [])[0], 66048)


class OfTwoTheFirstTold(unittest.TestCase):
    """One fault for each refusal, put together two by two."""

    def setUp(self):
        self.long = [97] * 66049
        self.wrong = text("ab")
        self.large = plain(511, 1)
        self.two = text("ab/")

    def test_too_long_ahead_of_all(self):
        self.assertEqual(round_of(0, self.wrong, STRIP, self.long), [-2])
        self.assertEqual(round_of(0, self.wrong, self.long, CORNER), [-2])
        self.assertEqual(round_of(0, [], self.long, CORNER), [-2])
        self.assertEqual(round_of(3, FIELD, STRIP, self.long), [-2])
        self.assertEqual(round_of(0, plain(3, 3), STRIP, self.long), [-2])
        self.assertEqual(round_of(0, self.large, text("a/"), self.long), [-2])

    def test_no_right_chart_ahead_of_out_of_bounds(self):
        self.assertEqual(round_of(3, self.wrong, STRIP, CORNER), [-6])
        self.assertEqual(round_of(LARGEST, FIELD, self.wrong, CORNER), [-6])
        self.assertEqual(round_of(1, FIELD, STRIP, self.wrong), [-6])
        self.assertEqual(round_of(0, self.wrong, STRIP, []), [-6])
        self.assertEqual(round_of(1, self.wrong, plain(1, 129), []), [-6])

    def test_no_right_chart_ahead_of_no_fit_and_too_large(self):
        self.assertEqual(round_of(0, plain(3, 3), self.two, self.wrong), [-6])
        self.assertEqual(round_of(0, self.large, text("a/"), self.wrong), [-6])

    def test_out_of_bounds_ahead_of_no_fit(self):
        self.assertEqual(round_of(3, plain(3, 3), self.two, CORNER), [-1])
        self.assertEqual(round_of(0, plain(3, 3), self.two, []), [-1])
        self.assertEqual(round_of(1, plain(3, 3), self.two, CORNER), [-1])
        self.assertEqual(round_of(2, plain(2, 2), plain(2, 129), []), [-1])

    def test_out_of_bounds_ahead_of_too_large(self):
        self.assertEqual(round_of(3, self.large, text("a/"), CORNER), [-1])
        self.assertEqual(round_of(0, self.large, text("a/"), text("cc/cc/")), [-1])
        self.assertEqual(round_of(2, self.large, text("a/"), CORNER), [-1])
        self.assertEqual(round_of(2, plain(512, 128), plain(1, 129), []), [-1])

    def test_no_fit_ahead_of_too_large(self):
        self.assertEqual(round_of(0, self.large, self.two, CORNER), [-3])
        self.assertEqual(round_of(1, self.large, text("a/"), []), [-3])
        self.assertEqual(round_of(2, plain(512, 2), self.two, []), [-3])
        self.assertEqual(round_of(2, plain(256, 256), self.two, []), [-3])


if __name__ == "__main__":
    unittest.main()
