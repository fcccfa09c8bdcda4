"""Points 13 to 17: gray bits, stored bits and packet bits."""

import itertools
import random
import unittest

from packetpicture.errors import OtherKind
from packetpicture.frames import Frame, all_keys, tile_pixels
from packetpicture.grays import gray_bit, packet_bits, picture_of, stored_bit, value_of
from packetpicture.pictures import Picture, blank
from tests.checking import HUGE, out_of_range, random_picture

SHAPES = (
    (1, 1, 1, 1, 1), (3, 2, 2, 1, 2), (5, 4, 3, 3, 2), (4, 4, 8, 1, 16), (7, 3, 5, 3, 3),
    (17, 2, 1, 3, 16), (2, 9, 4, 1, 4),
)


def packets_of(frame, picture):
    """Return the packet bits of all keys."""
    return {key: packet_bits(frame, picture, key) for key in all_keys(frame)}


class Grays(unittest.TestCase):
    def test_the_table_of_point_13(self):
        grays = ["".join(str(gray_bit(value, plane)) for plane in (2, 1, 0)) for value in range(8)]
        self.assertEqual(grays, ["000", "001", "011", "010", "110", "111", "101", "100"])

    def test_gray_bit_is_1_if_two_bits_differ(self):
        for value in range(300):
            for plane in range(12):
                low, high = value // 2 ** plane % 2, value // 2 ** (plane + 1) % 2
                self.assertEqual(gray_bit(value, plane), int(low != high))

    def test_large_values_and_planes(self):
        value = 2 ** 20000
        self.assertEqual(gray_bit(value, 20000), 1)
        self.assertEqual(gray_bit(value, 19999), 1)
        self.assertEqual(gray_bit(value, 19998), 0)
        self.assertEqual(gray_bit(value, 20001), 0)
        self.assertEqual(gray_bit(value - 1, 19999), 1)
        self.assertEqual(gray_bit(value - 1, 0), 0)
        self.assertEqual(gray_bit(5, HUGE), 0)

    def test_value_of(self):
        self.assertEqual(value_of([]), 0)
        self.assertEqual(value_of([0]), 0)
        self.assertEqual(value_of([1]), 1)
        for depth in range(1, 9):
            for value in range(2 ** depth):
                grays = [gray_bit(value, plane) for plane in reversed(range(depth))]
                self.assertEqual(value_of(grays), value)
                self.assertEqual(value_of([0, 0] + grays), value)

    def test_value_of_by_odd_numbers_of_gray_bits(self):
        for grays in itertools.product((0, 1), repeat=6):
            wanted = sum(sum(grays[:6 - plane]) % 2 * 2 ** plane for plane in range(6))
            self.assertEqual(value_of(list(grays)), wanted)

    def test_value_of_a_large_value(self):
        value = 3 ** 3000
        grays = [gray_bit(value, plane) for plane in reversed(range(value.bit_length()))]
        self.assertEqual(value_of(grays), value)

    def test_value_of_changes_nothing(self):
        grays = [1, 0, 1]
        value_of(grays)
        self.assertEqual(grays, [1, 0, 1])


class StoredBits(unittest.TestCase):
    def test_one_channel(self):
        picture = Picture(8, 1, 3, 1, [list(range(8))])
        for pixel in range(8):
            for plane in range(3):
                self.assertEqual(stored_bit(picture, 0, pixel, plane), gray_bit(pixel, plane))

    def test_three_channels(self):
        for values in itertools.product(range(8), repeat=3):
            picture = Picture(1, 1, 3, 3, [[value] for value in values])
            for plane in range(3):
                first, middle, last = [gray_bit(value, plane) for value in values]
                self.assertEqual(stored_bit(picture, 0, 0, plane), middle)
                self.assertEqual(stored_bit(picture, 1, 0, plane), int(first != middle))
                self.assertEqual(stored_bit(picture, 2, 0, plane), int(last != middle))


class PacketBits(unittest.TestCase):
    def test_the_example_of_point_17(self):
        picture = Picture(3, 2, 2, 1, [[0, 1, 2, 3, 2, 1]])
        frame = picture.framed(2)
        self.assertEqual(
            [packet_bits(frame, picture, key) for key in all_keys(frame)],
            ["0011", "10", "0101", "11"])

    def test_stored_bits_in_the_order_of_places(self):
        chance = random.Random(15)
        for shape in SHAPES:
            frame = Frame(*shape)
            picture = random_picture(chance, frame)
            for channel, tile, plane in all_keys(frame):
                wanted = [str(stored_bit(picture, channel, pixel, plane))
                          for pixel in tile_pixels(frame, tile)]
                self.assertEqual(packet_bits(frame, picture, (channel, tile, plane)), "".join(wanted))

    def test_a_picture_that_does_not_fit(self):
        frame = Frame(3, 2, 2, 1, 2)
        for numbers in ((2, 2, 2, 1), (3, 3, 2, 1), (3, 2, 1, 1), (3, 2, 2, 3), (2, 3, 2, 1)):
            picture = blank(Frame(*numbers, 2))
            for key in ((0, 0, 0), (1, 0, 0), (0, 2, 0), (0, 0, 2), (-1, -1, -1)):
                with self.assertRaises(OtherKind):
                    packet_bits(frame, picture, key)

    def test_a_wrong_key(self):
        frame = Frame(3, 2, 2, 1, 2)
        picture = blank(frame)
        out_of_range(self, "channel", packet_bits, frame, picture, (1, 2, 2))
        out_of_range(self, "channel", packet_bits, frame, picture, (-1, 2, 2))
        out_of_range(self, "tile", packet_bits, frame, picture, (0, 2, 2))
        out_of_range(self, "tile", packet_bits, frame, picture, (0, -HUGE, 2))
        out_of_range(self, "plane", packet_bits, frame, picture, (0, 1, 2))
        out_of_range(self, "plane", packet_bits, frame, picture, (0, 1, HUGE))

    def test_picture_of_against_packet_bits(self):
        chance = random.Random(16)
        for shape in SHAPES:
            frame = Frame(*shape)
            picture = random_picture(chance, frame)
            self.assertTrue(picture_of(frame, packets_of(frame, picture)).same(picture))

    def test_packet_bits_against_picture_of(self):
        chance = random.Random(17)
        for shape in SHAPES:
            frame = Frame(*shape)
            packets = {key: "".join(chance.choice("01") for _ in tile_pixels(frame, key[1]))
                       for key in all_keys(frame)}
            kept = dict(packets)
            self.assertEqual(packets_of(frame, picture_of(frame, packets)), kept)
            self.assertEqual(packets, kept)

    def test_exactly_one_picture_for_any_packet_bits(self):
        for frame in (Frame(2, 1, 3, 1, 1), Frame(1, 1, 2, 3, 1)):
            keys = all_keys(frame)
            found = set()
            for bits in itertools.product("01", repeat=len(keys)):
                found.add(str(picture_of(frame, dict(zip(keys, bits))).rows()))
            self.assertEqual(len(found), 2 ** len(keys))


if __name__ == "__main__":
    unittest.main()
