"""Point 27: the numbers of possible bits."""

import random
import unittest

from packetpicture.coder import encode, known_prefix, opens
from packetpicture.counting import (
    binary, binary_value, count_possible, first_possible, possible_at, rank_among,
)
from tests import brute
from tests.checking import HUGE, out_of_range

SIZES = [(width, count) for width in (1, 2, 3, 4, 7) for count in range(8)]


class SmallCounts(unittest.TestCase):
    def test_the_example_of_point_25(self):
        for code, many, first in (("", 16, "0000"), ("00", 2, "0000"), ("001", 1, "0001"),
                                  ("010", 3, "0010"), ("0100", 2, "0010"), ("0000", 0, None)):
            self.assertEqual(count_possible(2, 4, code), many)
            self.assertEqual(first_possible(2, 4, code), first)

    def test_against_going_through_all_bits(self):
        for width, count in SIZES:
            for start in brute.starts(width, count):
                rows = brute.possible(width, count, start)
                self.assertEqual(count_possible(width, count, start), len(rows))
                self.assertEqual(first_possible(width, count, start), rows[0] if rows else None)
                for rank, bits in enumerate(rows):
                    self.assertEqual(rank_among(width, start, bits), rank)
                    self.assertEqual(possible_at(width, count, start, rank), bits)

    def test_all_strings_up_to_9_digits(self):
        for width, count in ((1, 1), (1, 3), (2, 4), (3, 5)):
            for code in brute.strings(9):
                rows = brute.possible(width, count, code)
                self.assertEqual(count_possible(width, count, code), len(rows))
                self.assertEqual(first_possible(width, count, code), rows[0] if rows else None)

    def test_no_bits(self):
        self.assertEqual(count_possible(1, 0, ""), 1)
        self.assertEqual(first_possible(1, 0, ""), "")
        self.assertEqual(rank_among(1, "", ""), 0)
        self.assertEqual(possible_at(1, 0, "", 0), "")
        for code in ("0", "1", "0" * 400):
            self.assertEqual(count_possible(1, 0, code), 0)
            self.assertIsNone(first_possible(1, 0, code))


class LargeCounts(unittest.TestCase):
    def random_code(self, chance, width, count):
        """Return bits and their code."""
        rare = chance.choice((2, 3, 30))
        bits = "".join("01"[chance.randrange(rare) == 0] for _ in range(count))
        return bits, encode(width, bits)

    def test_nothing_arrived(self):
        for width in (1, 2, 16):
            for count in (1, 20, 255, 256):
                self.assertEqual(count_possible(width, count, ""), 2 ** count)
                self.assertEqual(first_possible(width, count, ""), "0" * count)
                for number in (0, 1, 2 ** count // 3, 2 ** count - 1):
                    bits = possible_at(width, count, "", number)
                    self.assertEqual((len(bits), int(bits, 2)), (count, number))
                    self.assertEqual(rank_among(width, "", bits), number)

    def test_the_numbers_of_both_next_digits_add_up(self):
        chance = random.Random(27)
        for width in (1, 2, 7, 16):
            for count in (50, 256):
                _, code = self.random_code(chance, width, count)
                for many in range(0, len(code), 5):
                    start = code[:many]
                    parts = [count_possible(width, count, start + digit) for digit in "01"]
                    self.assertEqual(count_possible(width, count, start), sum(parts))

    def test_a_whole_code(self):
        chance = random.Random(28)
        for width in (1, 6, 16):
            bits, code = self.random_code(chance, width, 256)
            self.assertEqual(count_possible(width, 256, code), 1)
            self.assertEqual(first_possible(width, 256, code), bits)
            self.assertEqual(rank_among(width, code, bits), 0)
            self.assertEqual(possible_at(width, 256, code, 0), bits)
            for digit in "01":
                self.assertEqual(count_possible(width, 256, code + digit), 0)
                self.assertIsNone(first_possible(width, 256, code + digit))

    def test_first_last_and_what_is_beside_them(self):
        chance = random.Random(29)
        for width in (1, 4, 16):
            for _ in range(3):
                bits, code = self.random_code(chance, width, 256)
                for many in range(1, len(code), 9):
                    start = code[:many]
                    possible = count_possible(width, 256, start)
                    first = first_possible(width, 256, start)
                    last = possible_at(width, 256, start, possible - 1)
                    for inside in (first, last):
                        self.assertTrue(opens(width, start, inside))
                    before, after = int(first, 2) - 1, int(last, 2) + 1
                    self.assertEqual(int(last, 2) - int(first, 2), possible - 1)
                    for value in (before, after):
                        if 0 <= value < 2 ** 256:
                            self.assertFalse(opens(width, start, format(value, "b").zfill(256)))
                    rank = rank_among(width, start, bits)
                    self.assertTrue(0 <= rank < possible)
                    self.assertEqual(possible_at(width, 256, start, rank), bits)
                    self.assertEqual(known_prefix(width, 256, start), brute.common([first, last]))

    def test_strings_longer_than_any_code(self):
        for width in (1, 16):
            for count in (0, 1, 100, 256):
                for many in ((17 * count + 848 + 15) // 16, 400):
                    for digit in "01":
                        self.assertEqual(count_possible(width, count, digit * many), 0)
                        self.assertIsNone(first_possible(width, count, digit * many))


class Errors(unittest.TestCase):
    def test_errors_in_their_order(self):
        long = "0" * 401
        for function in (count_possible, first_possible):
            for width in (0, -1, 17, HUGE, -HUGE):
                out_of_range(self, "width", function, width, -1, long)
            for count in (-1, 257, HUGE, -HUGE):
                out_of_range(self, "count", function, 16, count, long)
            for count in (0, 4, 256):
                out_of_range(self, "code", function, 1, count, long)

    def test_ranks_have_no_limits(self):
        self.assertEqual(rank_among(17, "", "0" * 290 + "1"), 1)
        self.assertEqual(possible_at(17, 300, "", 2), "0" * 298 + "10")


class Binary(unittest.TestCase):
    def test_binary(self):
        for value, count, wanted in ((0, 0, ""), (5, 0, ""), (0, 1, "0"), (0, 4, "0000"),
                                     (5, 3, "101"), (5, 6, "000101"), (5, 2, "01"), (6, 1, "0"),
                                     (255, 8, "11111111"), (256, 8, "00000000")):
            self.assertEqual(binary(value, count), wanted)

    def test_binary_value(self):
        for bits, wanted in (("", 0), ("0", 0), ("1", 1), ("0000", 0), ("0101", 5), ("110", 6)):
            self.assertEqual(binary_value(bits), wanted)

    def test_against_each_other(self):
        for count in range(8):
            for value, bits in enumerate(brute.all_bits(count)):
                self.assertEqual(binary(value, count), bits)
                self.assertEqual(binary_value(bits), value)

    def test_large_values(self):
        value = 3 ** 20000
        count = value.bit_length()
        bits = binary(value, count + 7)
        self.assertEqual(bits[:8], "00000001")
        self.assertEqual(binary_value(bits), value)
        self.assertEqual(binary(value, 64), bits[-64:])
        self.assertEqual(binary(value, 20 * count), bits.zfill(20 * count))
        self.assertEqual(binary_value("0" * 30000 + "1" * 30000), 2 ** 30000 - 1)
        self.assertEqual(binary(HUGE, 5000), "0" * 5000)


if __name__ == "__main__":
    unittest.main()
