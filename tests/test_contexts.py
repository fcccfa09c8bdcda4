"""Points 18 to 20: contexts and intervals."""

import random
import unittest

from packetpicture import contexts
from packetpicture.contexts import check_bits, check_code, check_width, context, interval, shares
from tests import brute
from tests.checking import HUGE, out_of_range

# The intervals that point 22 names for the width 2.
INTERVALS = (
    ("0000", (0, 24, 120)), ("0001", (24, 6, 120)), ("0010", (12, 2, 48)), ("0011", (14, 2, 48)),
    ("0100", (8, 1, 24)), ("0101", (9, 1, 24)), ("0110", (10, 1, 24)), ("1111", (15, 1, 16)),
)


class Contexts(unittest.TestCase):
    def test_each_neighbour_alone(self):
        # Place 4 is in the middle of the second row of three columns.
        for bits, wanted in (("0000", 0), ("0001", 1), ("1000", 2), ("0100", 4), ("0010", 8),
                             ("1111", 15), ("1001", 3), ("0110", 12)):
            self.assertEqual(context(3, bits, 4), wanted)

    def test_the_first_column(self):
        for bits, wanted in (("000", 0), ("100", 4), ("010", 8), ("001", 0), ("111", 12)):
            self.assertEqual(context(3, bits, 3), wanted)

    def test_the_last_column(self):
        for bits, wanted in (("00000", 0), ("00001", 1), ("01000", 2), ("00100", 4),
                             ("00010", 0), ("10000", 0), ("11111", 7)):
            self.assertEqual(context(3, bits, 5), wanted)

    def test_the_first_row(self):
        self.assertEqual(context(3, "", 0), 0)
        for bits, wanted in (("0", 0), ("1", 1)):
            self.assertEqual(context(3, bits, 1), wanted)
        for bits, wanted in (("00", 0), ("10", 0), ("01", 1), ("11", 1)):
            self.assertEqual(context(3, bits, 2), wanted)

    def test_width_1(self):
        self.assertEqual(context(1, "", 0), 0)
        for bits, wanted in (("0", 0), ("1", 4), ("10", 0), ("01", 4), ("11", 4)):
            self.assertEqual(context(1, bits, len(bits)), wanted)

    def test_width_2(self):
        for bits, wanted in (("00", 0), ("10", 4), ("01", 8), ("11", 12)):
            self.assertEqual(context(2, bits, 2), wanted)
        for bits, wanted in (("001", 1), ("100", 2), ("010", 4), ("111", 7)):
            self.assertEqual(context(2, bits, 3), wanted)

    def test_a_width_that_is_not_reached(self):
        self.assertEqual(context(16, "11111", 5), 1)
        self.assertEqual(context(HUGE, "11", 2), 1)

    def test_all_places_of_many_bits(self):
        chance = random.Random(18)
        for width in (1, 2, 3, 5, 16, 17):
            bits = "".join(chance.choice("01") for _ in range(60))
            for place in range(61):
                wanted = brute.context(width, bits, place)
                self.assertEqual(context(width, bits, place), wanted)
                self.assertEqual(context(width, bits[:place], place), wanted)
                self.assertEqual(shares(width, bits, place), brute.shares(width, bits, place))

    def test_only_the_bits_before_a_place_count(self):
        for place in range(5):
            zeros, ones = "0110"[:place] + "0000", "0110"[:place] + "1111"
            self.assertEqual(context(2, zeros, place), context(2, ones, place))
            self.assertEqual(shares(2, zeros, place), shares(2, ones, place))

    def test_shares(self):
        self.assertEqual(shares(2, "", 0), (1, 1))
        self.assertEqual(shares(16, "0000", 4), (5, 1))
        self.assertEqual(shares(16, "0111", 4), (1, 3))
        self.assertEqual(shares(16, "0110", 4), (2, 2))
        self.assertEqual(shares(16, "0110", 2), (1, 1))


class Intervals(unittest.TestCase):
    def test_the_intervals_of_point_22(self):
        for bits, wanted in INTERVALS:
            self.assertEqual(interval(2, bits), wanted)

    def test_no_bits(self):
        for width in (1, 2, 16, HUGE):
            self.assertEqual(interval(width, ""), (0, 1, 1))

    def test_one_bit(self):
        self.assertEqual(interval(1, "0"), (0, 1, 2))
        self.assertEqual(interval(1, "1"), (1, 1, 2))

    def test_all_bits_of_some_widths(self):
        for width in (1, 2, 3, 4, 9):
            for count in range(9):
                for bits in brute.all_bits(count):
                    self.assertEqual(interval(width, bits), brute.interval(width, bits))

    def test_256_bits(self):
        chance = random.Random(19)
        for width in (1, 2, 7, 16):
            bits = "".join(chance.choice("01") for _ in range(256))
            self.assertEqual(interval(width, bits), brute.interval(width, bits))
        whole = 1
        for many in range(256):
            whole *= many + 2
        size = whole // 257
        self.assertEqual(interval(16, "0" * 256), (0, size, whole))

    def test_the_intervals_of_all_bits_lie_side_by_side(self):
        for width in (1, 2, 3):
            end = (0, 1)
            for bits in brute.all_bits(6):
                low, size, whole = interval(width, bits)
                self.assertGreater(size, 0)
                self.assertEqual(low * end[1], end[0] * whole)
                end = (low + size, whole)
            self.assertEqual(end[0], end[1])

    def test_a_next_bit_1_starts_at_the_border(self):
        for bits in brute.all_bits(5):
            zeros, ones = shares(2, bits, 5)
            low, size, whole = interval(2, bits)
            found = contexts.coding_of(2, bits).border()
            self.assertEqual(found, (low * (zeros + ones) + size * zeros, whole * (zeros + ones)))
            self.assertEqual(found[0], interval(2, bits + "1")[0])


class Limits(unittest.TestCase):
    def test_limits(self):
        self.assertEqual((contexts.BITS_MOST, contexts.WIDTH_MOST, contexts.CODE_MOST), (256, 16, 400))

    def test_check_width(self):
        for width in range(1, 17):
            self.assertIsNone(check_width(width))
        for width in (0, -1, 17, HUGE, -HUGE):
            out_of_range(self, "width", check_width, width)

    def test_check_bits(self):
        for many in (0, 1, 255, 256):
            self.assertIsNone(check_bits("1" * many))
        for many in (257, 5000):
            out_of_range(self, "bits", check_bits, "0" * many)

    def test_check_code(self):
        for many in (0, 1, 399, 400):
            self.assertIsNone(check_code("1" * many))
        for many in (401, 5000):
            out_of_range(self, "code", check_code, "0" * many)


if __name__ == "__main__":
    unittest.main()
