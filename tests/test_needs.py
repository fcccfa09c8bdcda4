"""Points 44 to 46: needed keys, near-lossless pictures, negatives and changed keys."""

import random
import unittest

from packetpicture.errors import OtherKind
from packetpicture.frames import Frame, all_keys, locate_pixel, tile_pixels
from packetpicture.grays import packet_bits
from packetpicture.needs import changed, near, needed, negative
from packetpicture.packets import all_packets
from packetpicture.pictures import Picture, blank
from packetpicture.ranges import greatest_value, least_value, view
from tests.agreeing import all_whole
from tests.checking import HUGE, out_of_range, random_picture

SHAPES = ((3, 2, 2, 1, 2), (5, 4, 3, 3, 2), (4, 3, 8, 1, 3), (2, 3, 1, 3, 1), (3, 3, 4, 3, 16))

DEPENDS = {(1, 0): [0], (3, 0): [0, 1], (3, 1): [0], (3, 2): [0, 2]}


def random_rectangle(chance):
    """Return a rectangle, most often one that meets a small picture."""
    return (chance.randrange(7), chance.randrange(6), chance.randrange(1, 6), chance.randrange(1, 6))


def pixels_in(frame, rectangle):
    """Return the pixels of the picture that are in the rectangle."""
    left, top, width, height = rectangle
    return [y * frame.width + x for y in range(frame.height) for x in range(frame.width)
            if left <= x < left + width and top <= y < top + height]


def meets(frame, rectangle, tile):
    """Return True if the tile has a pixel in the rectangle."""
    return any(pixel in tile_pixels(frame, tile) for pixel in pixels_in(frame, rectangle))


class Needed(unittest.TestCase):
    def test_by_hand(self):
        frame = Frame(3, 2, 2, 3, 2)
        self.assertEqual(needed(frame, (2, 0, 1, 1), 2, 1), [(0, 1, 1), (2, 1, 1)])
        self.assertEqual(needed(frame, (2, 0, 1, 1), 1, 0), [(0, 1, 1), (0, 1, 0)])
        self.assertEqual(needed(frame, (1, 1, 64, 64), 0, 1), [(0, 0, 1), (0, 1, 1), (1, 0, 1), (1, 1, 1)])
        self.assertEqual(needed(frame, (0, 0, 64, 64), 0, 2), [])
        self.assertEqual(needed(frame, (3, 0, 64, 64), 0, 0), [])
        self.assertEqual(needed(frame, (0, 2, 64, 64), 0, 0), [])

    def test_against_the_words(self):
        chance = random.Random(44)
        for shape in SHAPES:
            frame = Frame(*shape)
            for channel in range(frame.channels):
                for planes in range(frame.depth + 1):
                    rectangle = random_rectangle(chance)
                    stored = DEPENDS[(frame.channels, channel)]
                    wanted = [key for key in all_keys(frame) if key[0] in stored and key[2] >= planes
                              and meets(frame, rectangle, key[1])]
                    self.assertEqual(needed(frame, rectangle, channel, planes), wanted)

    def test_least_and_greatest_values(self):
        chance = random.Random(45)
        for shape in SHAPES:
            frame = Frame(*shape)
            picture = random_picture(chance, frame)
            packets = dict(all_packets(frame, picture))
            for channel in range(frame.channels):
                for planes in range(frame.depth + 1):
                    rectangle = random_rectangle(chance)
                    keys = needed(frame, rectangle, channel, planes)
                    arrived = all_whole(frame, [(key, packets[key]) for key in keys])
                    for pixel in pixels_in(frame, rectangle):
                        least = picture.value(channel, pixel) // 2 ** planes * 2 ** planes
                        self.assertEqual(least_value(arrived, channel, pixel), least)
                        self.assertEqual(greatest_value(arrived, channel, pixel), least + 2 ** planes - 1)

    def test_errors_in_their_order(self):
        for frame in (Frame(3, 2, 2, 1, 2), Frame(3, 2, 2, 3, 2)):
            for rectangle in ((-1, 0, 1, 1), (64, 0, 1, 1), (0, -1, 1, 1), (0, 64, 1, 1), (0, 0, 0, 1),
                              (0, 0, 65, 1), (0, 0, 1, 0), (0, 0, 1, 65), (0, HUGE, 1, 1)):
                out_of_range(self, "rectangle", needed, frame, rectangle, -1, -1)
            for wrong in (-1, frame.channels, HUGE, -HUGE):
                out_of_range(self, "channel", needed, frame, (63, 63, 64, 64), wrong, -1)
            for wrong in (-1, 3, HUGE, -HUGE):
                out_of_range(self, "planes", needed, frame, (0, 0, 1, 1), frame.channels - 1, wrong)


class Near(unittest.TestCase):
    def test_by_hand(self):
        picture = Picture(8, 1, 3, 1, [list(range(8))])
        for planes, wanted in ((0, [0, 1, 2, 3, 4, 5, 6, 7]), (1, [0, 0, 2, 2, 4, 4, 6, 6]),
                               (2, [1, 1, 1, 1, 5, 5, 5, 5]), (3, [3] * 8)):
            self.assertEqual(near(picture, planes).rows(), [wanted])
        self.assertEqual(picture.rows(), [[0, 1, 2, 3, 4, 5, 6, 7]])

    def test_against_the_shown_picture(self):
        chance = random.Random(46)
        for shape in SHAPES:
            frame = Frame(*shape)
            picture = random_picture(chance, frame)
            packets = all_packets(frame, picture)
            for planes in range(frame.depth + 1):
                arrived = all_whole(frame, [packet for packet in packets if packet[0][2] >= planes])
                self.assertTrue(near(picture, planes).same(view(arrived, "shown")))

    def test_numbers_of_planes(self):
        for shape in SHAPES:
            frame = Frame(*shape)
            for wrong in (-1, frame.depth + 1, HUGE, -HUGE):
                out_of_range(self, "planes", near, blank(frame), wrong)


class Negative(unittest.TestCase):
    def test_negatives(self):
        chance = random.Random(47)
        for shape in SHAPES:
            frame = Frame(*shape)
            picture = random_picture(chance, frame)
            most = 2 ** frame.depth - 1
            wanted = [[most - value for value in row] for row in picture.rows()]
            self.assertEqual(negative(picture).rows(), wanted)
            self.assertTrue(negative(negative(picture)).same(picture))
            numbers = (frame.width, frame.height, frame.depth, frame.channels)
            found = negative(picture)
            self.assertEqual((found.width, found.height, found.depth, found.channels), numbers)


class Changed(unittest.TestCase):
    def test_the_packets_that_differ(self):
        chance = random.Random(48)
        for shape in SHAPES:
            frame = Frame(*shape)
            for _ in range(5):
                one = random_picture(chance, frame)
                other = chance.choice((one.with_value(0, 0, 1), random_picture(chance, frame)))
                wanted = [key for key in all_keys(frame)
                          if packet_bits(frame, one, key) != packet_bits(frame, other, key)]
                self.assertEqual(changed(frame, one, other), wanted)
                self.assertEqual(changed(frame, other, one), wanted)
                self.assertEqual(changed(frame, one, one), [])
                self.assertEqual(wanted == [], one.same(other))

    def test_a_value_that_grows_by_one(self):
        chance = random.Random(49)
        for shape in SHAPES:
            frame = Frame(*shape)
            for channel in range(frame.channels):
                for value in range(2 ** frame.depth - 1):
                    pixel = chance.randrange(frame.pixels())
                    one = random_picture(chance, frame).with_value(channel, pixel, value)
                    found = changed(frame, one, one.with_value(channel, pixel, value + 1))
                    self.assertEqual(found, self.grown(frame, channel, pixel, value))

    def grown(self, frame, channel, pixel, value):
        """Return the keys that point 46 names for a value that grows by one."""
        plane = max(plane for plane in range(8) if (value + 1) % 2 ** plane == 0)
        stored = [0] if frame.channels == 1 else [[1], [0, 1, 2], [2]][channel]
        tile, _ = locate_pixel(frame, pixel)
        return [(one, tile, plane) for one in stored]

    def test_a_picture_and_its_negative(self):
        chance = random.Random(50)
        for shape in SHAPES:
            frame = Frame(*shape)
            picture = random_picture(chance, frame)
            wanted = [(0, tile, frame.depth - 1) for tile in range(frame.tiles())]
            self.assertEqual(changed(frame, picture, negative(picture)), wanted)

    def test_a_picture_that_does_not_fit(self):
        frame = Frame(3, 2, 2, 1, 2)
        for numbers in ((2, 2, 2, 1), (3, 3, 2, 1), (3, 2, 1, 1), (3, 2, 2, 3), (2, 3, 2, 1)):
            other = blank(Frame(*numbers, 2))
            for pair in ((blank(frame), other), (other, blank(frame)), (other, other)):
                with self.assertRaises(OtherKind):
                    changed(frame, *pair)


if __name__ == "__main__":
    unittest.main()
