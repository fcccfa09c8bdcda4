"""Points 21 to 26: codes, and what is known from a prefix of a code."""

import random
import unittest
from fractions import Fraction

from packetpicture.coder import (
    encode, first_with_one, known, known_prefix, last_with_zero, opens, sample,
)
from packetpicture.contexts import interval, shares
from tests import brute
from tests.checking import HUGE, out_of_range

# The codes that point 22 names for the width 2.
CODES = (
    ("0000", "000"), ("0001", "00111"), ("0010", "01000"), ("0011", "010011"), ("0100", "01011"),
    ("0101", "01100"), ("0110", "011011"), ("1111", "1111"),
)

SIZES = [(width, count) for width in (1, 2, 3, 4, 7) for count in range(8)]


def random_bits(chance, count):
    """Return bits that the source of chance chooses; in some, one of the digits is rare."""
    rare = chance.choice((2, 2, 5, 40))
    digits = chance.choice(("01", "10"))
    return "".join(digits[chance.randrange(rare) == 0] for _ in range(count))


def unlikely_bits(width, count):
    """Return bits of which each is the one that has the smaller share, so that the code is long."""
    bits = ""
    while len(bits) < count:
        zeros, ones = shares(width, bits, len(bits))
        bits += "0" if zeros < ones else "1"
    return bits


class Codes(unittest.TestCase):
    def test_the_codes_of_point_22(self):
        for bits, code in CODES:
            self.assertEqual(encode(2, bits), code)

    def test_no_bits(self):
        for width in range(1, 17):
            self.assertEqual(encode(width, ""), "")

    def test_all_bits_of_some_widths(self):
        for width, count in SIZES:
            for bits in brute.all_bits(count):
                self.assertEqual(encode(width, bits), brute.code(width, bits))

    def test_the_cell_is_the_first_of_the_shortest_that_lie_in_the_interval(self):
        chance = random.Random(21)
        for width in (1, 3, 8, 16):
            for count in (20, 100, 256):
                bits = random_bits(chance, count)
                code = encode(width, bits)
                low, size, whole = interval(width, bits)
                start, end = Fraction(low, whole), Fraction(low + size, whole)
                value, power = int(code, 2), 2 ** len(code)
                self.assertLessEqual(start, Fraction(value, power))
                self.assertLessEqual(Fraction(value + 1, power), end)
                self.assertGreater(start, Fraction(value - 1, power))
                shorter = -(-low * (power // 2) // whole)
                self.assertGreater(Fraction(shorter + 1, power // 2), end)
                self.assertLess(power, 4 * whole)

    def test_the_longest_and_the_shortest_rows(self):
        for width in (1, 2, 16):
            for bits in ("0" * 256, "1" * 256):
                self.assertEqual(encode(width, bits), brute.code(width, bits))

    def test_codes_are_told_apart_and_keep_the_order(self):
        for width in (1, 2, 3, 5, 16):
            for count in range(1, 10):
                codes = [encode(width, bits) for bits in brute.all_bits(count)]
                for one, other in zip(codes, codes[1:]):
                    self.assertLess(one, other)
                    self.assertFalse(other.startswith(one))

    def test_neighbours_among_256_bits_are_told_apart(self):
        chance = random.Random(23)
        for width in (1, 4, 16):
            for _ in range(10):
                value = int(random_bits(chance, 255), 2)
                one, other = [encode(width, format(n, "b").zfill(256)) for n in (value, value + 1)]
                self.assertLess(one, other)
                self.assertFalse(other.startswith(one))

    def test_errors_of_encode(self):
        for width in (0, -1, 17, HUGE, -HUGE):
            out_of_range(self, "width", encode, width, "")
            out_of_range(self, "width", encode, width, "0" * 257)
        out_of_range(self, "bits", encode, 1, "0" * 257)
        out_of_range(self, "bits", encode, 16, "1" * 3000)
        self.assertEqual(encode(16, "0" * 256), brute.code(16, "0" * 256))

    def test_opens(self):
        for width, count in ((2, 4), (3, 5), (1, 0)):
            for start in brute.starts(width, count):
                for bits in brute.all_bits(count):
                    wanted = brute.code(width, bits).startswith(start)
                    self.assertIs(opens(width, start, bits), wanted)

    def test_opens_has_no_limits(self):
        self.assertIs(opens(17, "", "01"), True)
        self.assertIs(opens(1000, brute.code(1000, "0110"), "0110"), True)
        self.assertIs(opens(16, "0", "0" * 300), True)
        self.assertIs(opens(16, "0" * 500, "0" * 300), False)

    def test_last_with_zero_and_first_with_one(self):
        self.assertEqual(last_with_zero("", 0), "0")
        self.assertEqual(first_with_one("", 0), "1")
        self.assertEqual(last_with_zero("10", 3), "100111")
        self.assertEqual(first_with_one("10", 3), "101000")


class Known(unittest.TestCase):
    def test_the_example_of_point_25(self):
        for code, prefix in (("", ""), ("00", "000"), ("001", "0001"), ("010", "0"),
                             ("0100", "001"), ("0000", None)):
            self.assertEqual(known_prefix(2, 4, code), prefix)
        self.assertEqual(known(2, 4, ""), "????")
        self.assertEqual(known(2, 4, "00"), "000?")
        self.assertEqual(known(2, 4, "001"), "0001")
        self.assertEqual(known(2, 4, "010"), "0???")
        self.assertEqual(known(2, 4, "0100"), "001?")
        self.assertIsNone(known(2, 4, "0000"))

    def test_the_known_places_by_going_through_all_bits(self):
        for width, count in SIZES:
            for start in brute.starts(width, count):
                rows = brute.possible(width, count, start)
                if not rows:
                    self.assertIsNone(known_prefix(width, count, start))
                    self.assertIsNone(known(width, count, start))
                    continue
                prefix = brute.common(rows)
                places = "".join(column[0] if len(set(column)) == 1 else "?" for column in zip(*rows))
                self.assertEqual(known_prefix(width, count, start), prefix)
                self.assertEqual(known(width, count, start), places)

    def test_all_strings_up_to_9_digits(self):
        for width, count in ((1, 1), (1, 3), (2, 4), (3, 5)):
            for code in brute.strings(9):
                rows = brute.possible(width, count, code)
                self.assertEqual(known_prefix(width, count, code), brute.common(rows) if rows else None)

    def test_a_border_inside_an_impossible_cell(self):
        # The cell has the fraction 1 / 3 in it, where 0100 begins, but no code is as long.
        for pairs in range(3, 190):
            self.assertIsNone(known_prefix(2, 4, "01" * pairs))

    def test_no_bits(self):
        for width in (1, 16):
            self.assertEqual(known_prefix(width, 0, ""), "")
            self.assertEqual(known(width, 0, ""), "")
            for code in ("0", "1", "0" * 400):
                self.assertIsNone(known_prefix(width, 0, code))

    def test_a_whole_code_makes_all_bits_known(self):
        chance = random.Random(24)
        for width in (1, 2, 9, 16):
            for count in (1, 17, 100, 256):
                bits = random_bits(chance, count)
                code = encode(width, bits)
                self.assertEqual(known_prefix(width, count, code), bits)
                self.assertIsNone(known_prefix(width, count, code + "0"))
                self.assertIsNone(known_prefix(width, count, code + "1"))

    def test_more_digits_make_more_known(self):
        chance = random.Random(25)
        for width in (1, 5, 16):
            for count in (60, 256):
                bits = random_bits(chance, count)
                code = encode(width, bits)
                before = ""
                for many in range(len(code) + 1):
                    prefix = known_prefix(width, count, code[:many])
                    self.assertTrue(prefix.startswith(before))
                    self.assertTrue(bits.startswith(prefix))
                    before = prefix
                self.assertEqual(before, bits)

    def test_the_next_bit_after_the_known_ones_can_be_both(self):
        chance = random.Random(26)
        for width in (1, 3, 16):
            code = encode(width, random_bits(chance, 256))
            for many in range(0, len(code), 7):
                prefix = known_prefix(width, 256, code[:many])
                if len(prefix) < 256:
                    more = 255 - len(prefix)
                    self.assertTrue(opens(width, code[:many], last_with_zero(prefix, more)))
                    self.assertTrue(opens(width, code[:many], first_with_one(prefix, more)))

    def test_no_code_is_as_long_as_point_24_says(self):
        for width in (1, 2, 3, 8, 16):
            for count in range(0, 257, 16):
                code = encode(width, unlikely_bits(width, count))
                self.assertLess(16 * len(code), 17 * count + 848)

    def test_strings_longer_than_any_code_are_impossible(self):
        for width in (1, 2, 16):
            for count in (0, 1, 4, 16, 100, 256):
                longest = (17 * count + 848 + 15) // 16
                for many in (longest, longest + 1, 400):
                    for digit in "01":
                        self.assertIsNone(known_prefix(width, count, digit * many))
                        self.assertIsNone(known(width, count, digit * many))

    def test_errors_in_their_order(self):
        long = "0" * 401
        for function, rest in ((known_prefix, ()), (known, ()), (sample, (-1, "2"))):
            for width in (0, -1, 17, HUGE, -HUGE):
                out_of_range(self, "width", function, width, -1, long, *rest)
            for count in (-1, 257, HUGE, -HUGE):
                out_of_range(self, "count", function, 16, count, long, *rest)
            for count in (0, 4, 256):
                out_of_range(self, "code", function, 1, count, long, *rest)

    def test_arguments_at_their_limits(self):
        self.assertEqual(known_prefix(16, 256, ""), "")
        self.assertEqual(known(1, 256, ""), "?" * 256)
        self.assertIsNone(known_prefix(1, 256, "0" * 400))


class Samples(unittest.TestCase):
    def test_samples_of_the_example(self):
        self.assertEqual(sample(2, 4, "00", 0, "0"), "0000")
        self.assertEqual(sample(2, 4, "00", 3, "0"), "0000")
        self.assertEqual(sample(2, 4, "00", 3, "1"), "0001")
        self.assertEqual(sample(2, 4, "010", 0, "1"), "0100")
        self.assertEqual(sample(2, 4, "010", 1, "0"), "0011")
        self.assertEqual(sample(2, 4, "010", 1, "1"), "0100")
        self.assertEqual(sample(2, 4, "001", 0, "1"), "0001")
        self.assertIsNone(sample(2, 4, "0000", 0, "0"))

    def test_samples_are_possible_and_have_the_bit(self):
        for width, count in SIZES:
            for start in brute.starts(width, count):
                rows = brute.possible(width, count, start)
                for place in range(count):
                    for bit in "01":
                        found = sample(width, count, start, place, bit)
                        if not rows:
                            self.assertIsNone(found)
                            continue
                        self.assertIn(found, rows)
                        if any(row[place] == bit for row in rows):
                            self.assertEqual(found[place], bit)

    def test_samples_are_the_lower_or_the_upper_bits(self):
        for width, count in ((2, 6), (3, 7)):
            for start in brute.starts(width, count):
                rows = brute.possible(width, count, start)
                if len(rows) < 2:
                    continue
                prefix = brute.common(rows)
                more = count - len(prefix) - 1
                lower, upper = prefix + "0" + "1" * more, prefix + "1" + "0" * more
                for place in range(count):
                    for bit in "01":
                        wanted = lower if lower[place] == bit else upper
                        self.assertEqual(sample(width, count, start, place, bit), wanted)

    def test_all_bits_known(self):
        bits = "0110100110010110"
        code = encode(4, bits)
        for place in range(16):
            for bit in "01":
                self.assertEqual(sample(4, 16, code, place, bit), bits)

    def test_wrong_places_and_bits(self):
        for place in (-1, 4, HUGE, -HUGE):
            out_of_range(self, "place", sample, 2, 4, "0000", place, "2")
        for place in (-1, 0, 1):
            out_of_range(self, "place", sample, 2, 0, "", place, "0")
        for bit in ("", "2", "01", "10", "00", " 0", "?"):
            out_of_range(self, "bit", sample, 2, 4, "", 3, bit)
            out_of_range(self, "bit", sample, 2, 4, "0000", 0, bit)


if __name__ == "__main__":
    unittest.main()
