"""Points 36 and 37: witnesses."""

import random
import unittest

from packetpicture.arrived import Arrived, known_text
from packetpicture.coder import sample
from packetpicture.frames import Frame, all_keys, locate_pixel, tile_size
from packetpicture.grays import gray_bit, packet_bits
from packetpicture.numbering import agrees
from packetpicture.packets import all_packets
from packetpicture.ranges import greatest_value, least_value
from packetpicture.witnesses import witness
from tests.agreeing import SMALL, agreeing, partly_arrived, places, point_34, states
from tests.checking import HUGE, out_of_range, random_picture

LARGE = ((20, 18, 2, 1, 16), (9, 7, 3, 3, 4))
ENDS = (("least", least_value), ("greatest", greatest_value))


def known_bit(arrived, key, place):
    """Return a known bit of a packet, or the question mark."""
    return known_text(arrived, key)[place]


def known_or_zero(arrived, key, place):
    """Return a known bit of a packet, or 0."""
    return known_bit(arrived, key, place).replace("?", "0")


def wanted_bit(arrived, channel, key, place, gray):
    """Return the bit that point 36 chooses for a packet of the tile of the pixel."""
    stored, tile, plane = key
    if arrived.frame.channels == 1:
        return gray
    if channel == 1:
        return gray if stored == 0 else known_or_zero(arrived, key, place)
    extra = 1 if channel == 0 else 2
    base = known_bit(arrived, (0, tile, plane), place)
    if base == "?":
        other = known_bit(arrived, (extra, tile, plane), place)
        base = "0" if other == "?" else str(int(other != gray))
    if stored == 0:
        return base
    if stored == extra:
        return str(int(base != gray))
    return known_or_zero(arrived, key, place)


def wanted_packet(arrived, channel, pixel, value, key):
    """Return the packet bits of the witness of point 36."""
    tile, place = locate_pixel(arrived.frame, pixel)
    if key[1] != tile:
        place, bit = 0, known_or_zero(arrived, key, 0)
    else:
        bit = wanted_bit(arrived, channel, key, place, str(gray_bit(value, key[2])))
    width, height = tile_size(arrived.frame, key[1])
    return sample(width, width * height, arrived.digits(key), place, bit)


class Witnesses(unittest.TestCase):
    def test_the_example_of_point_37(self):
        self.assertEqual(witness(point_34(), 0, 3, "least").rows(), [[0, 1, 0, 0]])
        self.assertEqual(witness(point_34(), 0, 3, "greatest").rows(), [[0, 1, 0, 3]])

    def check(self, arrived, channel, pixel):
        """Check both witnesses at a pixel: they agree, have the value, and the bits of point 36."""
        for end, function in ENDS:
            found = witness(arrived, channel, pixel, end)
            value = function(arrived, channel, pixel)
            self.assertTrue(agrees(arrived, found))
            self.assertEqual(found.value(channel, pixel), value)
            for key in all_keys(arrived.frame):
                wanted = wanted_packet(arrived, channel, pixel, value, key)
                self.assertEqual(packet_bits(arrived.frame, found, key), wanted)

    def test_small_frames(self):
        chance = random.Random(36)
        for shape in SMALL + ((5, 1, 1, 3, 2),):
            frame = Frame(*shape)
            arrivals = [Arrived(frame)]
            for _ in range(8):
                packets = all_packets(frame, random_picture(chance, frame))
                arrivals.append(partly_arrived(chance, frame, packets))
            for arrived in arrivals:
                for channel, pixel in places(frame):
                    self.check(arrived, channel, pixel)

    def test_each_choice_of_known_bits_with_three_channels(self):
        # With one pixel and one plane, each packet has one bit, which is also its code.
        for number in range(27):
            arrived = Arrived(Frame(1, 1, 1, 3, 1))
            for stored in range(3):
                digit = ("", "0", "1")[number // 3 ** stored % 3]
                arrived.accept((stored, 0, 0), 0, digit)
            for channel in range(3):
                self.check(arrived, channel, 0)

    def test_witnesses_are_among_the_pictures_that_agree(self):
        chance = random.Random(37)
        for shape in SMALL:
            for _, arrived in states(chance, shape, 3):
                rows = [picture.rows() for picture in agreeing(shape, arrived)]
                for channel, pixel in places(arrived.frame):
                    for end, _ in ENDS:
                        self.assertIn(witness(arrived, channel, pixel, end).rows(), rows)

    def test_large_frames(self):
        chance = random.Random(38)
        for shape in LARGE:
            frame = Frame(*shape)
            packets = all_packets(frame, random_picture(chance, frame))
            arrived = partly_arrived(chance, frame, packets)
            for channel, pixel in chance.sample(places(frame), 12):
                self.check(arrived, channel, pixel)

    def test_nothing_changes(self):
        arrived = point_34()
        witness(arrived, 0, 3, "least")
        self.assertTrue(arrived.same(point_34()))


class Errors(unittest.TestCase):
    def test_channel_then_pixel_then_end(self):
        for arrived, channels, pixels in ((point_34(), 1, 4), (Arrived(Frame(3, 2, 1, 3, 1)), 3, 6)):
            for wrong in (-1, channels, HUGE, -HUGE):
                out_of_range(self, "channel", witness, arrived, wrong, -1, "")
            for wrong in (-1, pixels, HUGE, -HUGE):
                out_of_range(self, "pixel", witness, arrived, channels - 1, wrong, "")
            for word in ("", "shown", "Least", "greatest ", "end"):
                out_of_range(self, "end", witness, arrived, channels - 1, pixels - 1, word)


if __name__ == "__main__":
    unittest.main()
