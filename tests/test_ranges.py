"""Points 30 to 35: what is known of a picture."""

import itertools
import random
import unittest

from packetpicture.arrived import Arrived, known_text
from packetpicture.frames import Frame, locate_pixel
from packetpicture.grays import gray_bit
from packetpicture.numbering import count_pictures, number_of
from packetpicture.packets import all_packets
from packetpicture.ranges import (
    error_bound, exact_count, gray_known, greatest_error, greatest_value, least_value,
    possible_values, shown_value, value_range, view,
)
from tests.agreeing import (
    SMALL, agreeing, all_whole, partly_arrived, places, point_34, states,
)
from tests.checking import HUGE, out_of_range, random_picture

LARGE = ((20, 18, 3, 1, 16), (9, 7, 8, 3, 4), (6, 5, 4, 3, 1))
SINGLE = (least_value, greatest_value, shown_value, error_bound, possible_values, value_range)


def large_states(chance):
    """Return objects for large frames of which something has arrived."""
    found = []
    for shape in LARGE:
        frame = Frame(*shape)
        packets = all_packets(frame, random_picture(chance, frame))
        found += [Arrived(frame), partly_arrived(chance, frame, packets), all_whole(frame, packets)]
    return found


class Example(unittest.TestCase):
    def test_point_34(self):
        arrived = point_34()
        wanted = [(0, 0, 0, 0, [0]), (0, 1, 0, 1, [0, 1]), (0, 1, 0, 1, [0, 1]), (0, 3, 1, 2, [0, 1, 2, 3])]
        self.assertEqual([value_range(arrived, 0, pixel) for pixel in range(4)], wanted)
        for at, function in enumerate(SINGLE[:-1]):
            for pixel in range(4):
                self.assertEqual(function(arrived, 0, pixel), wanted[pixel][at])
        self.assertEqual([[gray_known(arrived, 0, pixel, plane) for pixel in range(4)]
                          for plane in (1, 0)], [[0, 0, 0, None], [0, None, None, None]])
        self.assertEqual(greatest_error(arrived), 2)
        self.assertEqual(exact_count(arrived), 1)
        self.assertEqual(view(arrived, "least").rows(), [[0, 0, 0, 0]])
        self.assertEqual(view(arrived, "shown").rows(), [[0, 0, 0, 1]])
        self.assertEqual(view(arrived, "greatest").rows(), [[0, 1, 1, 3]])

    def test_possible_values_with_a_gap(self):
        # Of the gray bits only that of plane 0 is known: the first and the last value, or those between.
        for digit, wanted in (("0", [0, 3]), ("1", [1, 2])):
            arrived = Arrived(Frame(1, 1, 2, 1, 1))
            arrived.accept((0, 0, 0), 0, digit)
            least, greatest = (0, 3) if digit == "0" else (1, 2)
            shown = (least + greatest) // 2
            self.assertEqual(value_range(arrived, 0, 0),
                             (least, greatest, shown, greatest - shown, wanted))


class GrayBits(unittest.TestCase):
    def with_bits(self, frame, bits):
        """Return an object for which these bits have arrived, a dict from stored channels."""
        arrived = Arrived(frame)
        for stored, bit in bits.items():
            arrived.accept((stored, 0, 0), 0, str(bit))
        return arrived

    def test_one_channel(self):
        for bit in (None, 0, 1):
            arrived = self.with_bits(Frame(1, 1, 1, 1, 1), {} if bit is None else {0: bit})
            self.assertEqual(gray_known(arrived, 0, 0, 0), bit)

    def test_three_channels(self):
        # With one pixel and one plane, each packet has one bit, which is also its code.
        frame = Frame(1, 1, 1, 3, 1)
        for first, second, third in itertools.product((None, 0, 1), repeat=3):
            known = {at: bit for at, bit in enumerate((first, second, third)) if bit is not None}
            arrived = self.with_bits(frame, known)
            self.assertEqual(gray_known(arrived, 1, 0, 0), first)
            for channel, other in ((0, second), (2, third)):
                both = first is not None and other is not None
                self.assertEqual(gray_known(arrived, channel, 0, 0), int(first != other) if both else None)

    def test_against_what_is_known_of_the_packets(self):
        chance = random.Random(30)
        for shape in SMALL:
            for picture, arrived in states(chance, shape, 5):
                self.check_grays(arrived, picture)

    def check_grays(self, arrived, picture):
        """Check all gray bits with the texts of the packets."""
        frame = arrived.frame
        for channel, pixel in places(frame):
            tile, place = locate_pixel(frame, pixel)
            needed = [0] if frame.channels == 1 else [[0, 1], [0], [0, 2]][channel]
            for plane in range(frame.depth):
                bits = [known_text(arrived, (stored, tile, plane))[place] for stored in needed]
                wanted = None if "?" in bits else gray_bit(picture.value(channel, pixel), plane)
                self.assertEqual(gray_known(arrived, channel, pixel, plane), wanted)


class AllPictures(unittest.TestCase):
    def test_points_31_to_33(self):
        chance = random.Random(33)
        for shape in SMALL:
            for _, arrived in states(chance, shape, 6) + [(None, Arrived(Frame(*shape)))]:
                pictures = agreeing(shape, arrived)
                for channel, pixel in places(arrived.frame):
                    values = sorted({picture.value(channel, pixel) for picture in pictures})
                    self.check_values(value_range(arrived, channel, pixel), values)

    def check_values(self, found, values):
        """Check the range of a pixel against the values that it has in the pictures that agree."""
        least, greatest, shown, bound, possible = found
        self.assertEqual(possible, values)
        self.assertEqual((least, greatest), (values[0], values[-1]))
        self.assertEqual(shown, (values[0] + values[-1]) // 2)
        self.assertEqual(bound, max(abs(value - shown) for value in values))
        for other in range(values[-1] + 3):
            self.assertGreaterEqual(max(abs(value - other) for value in values), bound)


class AllPixels(unittest.TestCase):
    def test_against_the_single_functions(self):
        chance = random.Random(34)
        small = [arrived for shape in SMALL for _, arrived in states(chance, shape, 3)]
        for arrived in small + large_states(chance):
            rows = [value_range(arrived, channel, pixel) for channel, pixel in places(arrived.frame)]
            for at, function in enumerate(SINGLE[:-1]):
                single = [function(arrived, channel, pixel) for channel, pixel in places(arrived.frame)]
                self.assertEqual([row[at] for row in rows], single)
            self.assertEqual(greatest_error(arrived), max(row[3] for row in rows))
            self.assertEqual(exact_count(arrived), sum(row[0] == row[1] for row in rows))
            self.check_views(arrived, rows)

    def check_views(self, arrived, rows):
        """Check the three views against the ranges of all pixels."""
        frame = arrived.frame
        for at, which in ((0, "least"), (1, "greatest"), (2, "shown")):
            picture = view(arrived, which)
            numbers = (picture.width, picture.height, picture.depth, picture.channels)
            self.assertEqual(numbers, (frame.width, frame.height, frame.depth, frame.channels))
            values = [value for row in picture.rows() for value in row]
            self.assertEqual(values, [row[at] for row in rows])

    def test_nothing_arrived(self):
        for shape in SMALL + LARGE:
            arrived = Arrived(Frame(*shape))
            most = 2 ** shape[2] - 1
            self.assertEqual(value_range(arrived, 0, 0),
                             (0, most, most // 2, most - most // 2, list(range(most + 1))))
            self.assertEqual(greatest_error(arrived), most - most // 2)
            self.assertEqual(exact_count(arrived), 0)

    def test_each_list_is_new(self):
        arrived = point_34()
        possible_values(arrived, 0, 3).clear()
        value_range(arrived, 0, 3)[4].clear()
        self.assertEqual(possible_values(arrived, 0, 3), [0, 1, 2, 3])
        self.assertEqual(arrived.packets(), point_34().packets())


class MoreDigits(unittest.TestCase):
    def test_point_35_digit_by_digit(self):
        chance = random.Random(35)
        for shape in SMALL + ((4, 3, 3, 3, 2), (6, 6, 2, 1, 6)):
            frame = Frame(*shape)
            packets = all_packets(frame, random_picture(chance, frame))
            arrived = Arrived(frame)
            rows = self.all_ranges(arrived)
            count = count_pictures(arrived)
            while arrived.packets() != packets:
                key, code = chance.choice(packets)
                many = len(arrived.digits(key))
                if many < len(code):
                    arrived.accept(key, many, code[many])
                later, many = self.all_ranges(arrived), count_pictures(arrived)
                self.check_later(rows, later)
                self.assertLessEqual(many, count)
                rows, count = later, many

    def all_ranges(self, arrived):
        """Return the ranges of all pixels."""
        return [value_range(arrived, channel, pixel) for channel, pixel in places(arrived.frame)]

    def check_later(self, rows, later):
        """Check that no range has grown."""
        for before, after in zip(rows, later):
            self.assertLessEqual(before[0], after[0])
            self.assertGreaterEqual(before[1], after[1])
            self.assertGreaterEqual(before[3], after[3])
            self.assertTrue(set(after[4]) <= set(before[4]))

    def test_all_packets_whole(self):
        chance = random.Random(36)
        for shape in SMALL + LARGE:
            frame = Frame(*shape)
            picture = random_picture(chance, frame)
            arrived = all_whole(frame, all_packets(frame, picture))
            self.assertEqual(count_pictures(arrived), 1)
            self.assertEqual(number_of(arrived, picture), 0)
            self.assertEqual(greatest_error(arrived), 0)
            self.assertEqual(exact_count(arrived), frame.channels * frame.pixels())
            for which in ("least", "shown", "greatest"):
                self.assertTrue(view(arrived, which).same(picture))
            if shape in SMALL:
                self.assertTrue(all(one.same(picture) for one in agreeing(shape, arrived)))


class Errors(unittest.TestCase):
    def test_channel_then_pixel(self):
        for shape, channels, pixels in (((2, 2, 2, 1, 2), 1, 4), ((3, 2, 1, 3, 1), 3, 6)):
            arrived = Arrived(Frame(*shape))
            for function in SINGLE:
                for wrong in (-1, channels, HUGE, -HUGE):
                    out_of_range(self, "channel", function, arrived, wrong, -1)
                    out_of_range(self, "channel", function, arrived, wrong, 0)
                for wrong in (-1, pixels, HUGE, -HUGE):
                    out_of_range(self, "pixel", function, arrived, channels - 1, wrong)

    def test_channel_then_pixel_then_plane(self):
        arrived = point_34()
        for wrong in (-1, 1, HUGE, -HUGE):
            out_of_range(self, "channel", gray_known, arrived, wrong, 4, 2)
        for wrong in (-1, 4, HUGE, -HUGE):
            out_of_range(self, "pixel", gray_known, arrived, 0, wrong, 2)
        for wrong in (-1, 2, HUGE, -HUGE):
            out_of_range(self, "plane", gray_known, arrived, 0, 3, wrong)

    def test_another_word_for_a_view(self):
        for word in ("", "Least", "most", "least ", "shown value", "view"):
            out_of_range(self, "view", view, point_34(), word)


if __name__ == "__main__":
    unittest.main()
