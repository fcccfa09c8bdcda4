"""The section packetpicture/packets.py of the interface."""

import random
import unittest

from packetpicture.coder import encode, known_prefix
from packetpicture.errors import OtherKind
from packetpicture.frames import Frame, all_keys, tile_pixels, tile_size
from packetpicture.grays import packet_bits, picture_of
from packetpicture.packets import all_packets, packet_code
from packetpicture.pictures import Picture, blank
from tests.checking import HUGE, out_of_range, random_picture

SHAPES = ((1, 1, 1, 1, 1), (3, 2, 2, 1, 2), (5, 4, 3, 3, 3), (20, 18, 2, 1, 16), (17, 3, 1, 3, 16))


class Packets(unittest.TestCase):
    def test_the_picture_of_point_17(self):
        picture = Picture(3, 2, 2, 1, [[0, 1, 2, 3, 2, 1]])
        frame = picture.framed(2)
        self.assertEqual(all_packets(frame, picture), [
            ((0, 0, 1), "010011"), ((0, 1, 1), encode(1, "10")),
            ((0, 0, 0), "01100"), ((0, 1, 0), encode(1, "11"))])
        self.assertEqual(packet_code(frame, picture, (0, 0, 1)), "010011")
        self.assertEqual(packet_code(frame, picture, (0, 0, 0)), "01100")

    def test_codes_with_the_width_of_the_tile(self):
        chance = random.Random(18)
        for shape in SHAPES:
            frame = Frame(*shape)
            picture = random_picture(chance, frame)
            for key in all_keys(frame):
                width = tile_size(frame, key[1])[0]
                wanted = encode(width, packet_bits(frame, picture, key))
                self.assertEqual(packet_code(frame, picture, key), wanted)

    def test_all_packets_in_order(self):
        chance = random.Random(19)
        for shape in SHAPES:
            frame = Frame(*shape)
            picture = random_picture(chance, frame)
            wanted = [(key, packet_code(frame, picture, key)) for key in all_keys(frame)]
            found = all_packets(frame, picture)
            self.assertEqual(found, wanted)
            self.assertTrue(all(type(packet) is tuple for packet in found))
            found.clear()
            self.assertEqual(all_packets(frame, picture), wanted)

    def test_the_picture_from_its_packets(self):
        chance = random.Random(20)
        for shape in SHAPES:
            frame = Frame(*shape)
            picture = random_picture(chance, frame)
            packets = {}
            for key, code in all_packets(frame, picture):
                count = len(tile_pixels(frame, key[1]))
                packets[key] = known_prefix(tile_size(frame, key[1])[0], count, code)
            self.assertTrue(picture_of(frame, packets).same(picture))

    def test_a_picture_that_does_not_fit(self):
        frame = Frame(3, 2, 2, 1, 2)
        for numbers in ((2, 2, 2, 1), (3, 3, 2, 1), (3, 2, 1, 1), (3, 2, 2, 3), (2, 3, 2, 1)):
            picture = blank(Frame(*numbers, 2))
            with self.assertRaises(OtherKind):
                all_packets(frame, picture)
            for key in ((0, 0, 0), (3, 9, 9), (-1, -1, -1)):
                with self.assertRaises(OtherKind):
                    packet_code(frame, picture, key)

    def test_a_wrong_key(self):
        frame = Frame(3, 2, 2, 3, 2)
        picture = blank(frame)
        for wrong in (-1, 3, HUGE, -HUGE):
            out_of_range(self, "channel", packet_code, frame, picture, (wrong, 2, 2))
        for wrong in (-1, 2, HUGE, -HUGE):
            out_of_range(self, "tile", packet_code, frame, picture, (2, wrong, 2))
            out_of_range(self, "plane", packet_code, frame, picture, (2, 1, wrong))


if __name__ == "__main__":
    unittest.main()
