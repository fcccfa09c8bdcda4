"""Points 28, 38 and 39: the pictures that agree, and their numbers."""

import random
import unittest

from packetpicture.arrived import Arrived
from packetpicture.frames import Frame
from packetpicture.numbering import agrees, count_pictures, number_of, picture_at
from packetpicture.packets import all_packets
from packetpicture.pictures import Picture, blank
from tests.agreeing import (
    SMALL, agreeing, all_whole, coded_pictures, partly_arrived, point_34, states,
)
from tests.checking import HUGE, out_of_range, random_picture

LARGE = ((20, 18, 3, 1, 16), (9, 7, 8, 3, 4), (6, 5, 4, 3, 1))

NUMBERED = ([0, 0, 1, 0], [0, 0, 1, 1], [0, 1, 0, 0], [0, 0, 1, 3], [0, 0, 1, 2], [0, 1, 0, 3])


class Example(unittest.TestCase):
    def test_point_39(self):
        arrived = point_34()
        self.assertEqual(count_pictures(arrived), 6)
        for number, values in enumerate(NUMBERED):
            picture = Picture(2, 2, 2, 1, [values])
            self.assertTrue(agrees(arrived, picture))
            self.assertEqual(number_of(arrived, picture), number)
            self.assertEqual(picture_at(arrived, number).rows(), [values])
        self.assertIsNone(picture_at(arrived, 6))
        for values in ([0, 0, 0, 0], [1, 0, 1, 0], [0, 1, 1, 0], [3, 3, 3, 3]):
            picture = Picture(2, 2, 2, 1, [values])
            self.assertIs(agrees(arrived, picture), False)
            self.assertIsNone(number_of(arrived, picture))
        self.assertTrue(arrived.same(point_34()))


class AllPictures(unittest.TestCase):
    def test_against_all_pictures(self):
        chance = random.Random(38)
        for shape in SMALL:
            for _, arrived in states(chance, shape, 4):
                pictures = agreeing(shape, arrived)
                self.assertEqual(count_pictures(arrived), len(pictures))
                for number in self.some_numbers(chance, len(pictures)):
                    self.assertEqual(number_of(arrived, pictures[number]), number)
                    self.assertTrue(picture_at(arrived, number).same(pictures[number]))
                rows = [picture.rows() for picture in pictures]
                for picture, _ in chance.sample(coded_pictures(shape), min(50, len(coded_pictures(shape)))):
                    self.check_picture(arrived, picture, picture.rows() in rows)

    def some_numbers(self, chance, count):
        """Return the first numbers below count, the last one, and some others."""
        numbers = list(range(min(count, 40))) + [count - 1]
        return numbers + [chance.randrange(count) for _ in range(20)]

    def check_picture(self, arrived, picture, wanted):
        """Check whether the picture agrees."""
        self.assertIs(agrees(arrived, picture), wanted)
        self.assertEqual(number_of(arrived, picture) is not None, wanted)

    def test_nothing_arrived(self):
        for shape in SMALL + LARGE:
            frame = Frame(*shape)
            arrived = Arrived(frame)
            count = 2 ** (frame.depth * frame.channels * frame.pixels())
            self.assertEqual(count_pictures(arrived), count)
            self.assertTrue(agrees(arrived, blank(frame)))
            self.assertEqual(number_of(arrived, blank(frame)), 0)
            self.assertTrue(picture_at(arrived, 0).same(blank(frame)))
            self.assertIsNone(picture_at(arrived, count))
            self.assertEqual(number_of(arrived, picture_at(arrived, count - 1)), count - 1)


class LargeFrames(unittest.TestCase):
    def test_numbers_and_back(self):
        chance = random.Random(39)
        for shape in LARGE:
            frame = Frame(*shape)
            picture = random_picture(chance, frame)
            arrived = partly_arrived(chance, frame, all_packets(frame, picture))
            count = count_pictures(arrived)
            number = number_of(arrived, picture)
            self.assertTrue(0 <= number < count)
            self.assertTrue(picture_at(arrived, number).same(picture))
            for number in (0, count // 3, count - 1):
                found = picture_at(arrived, number)
                self.assertTrue(agrees(arrived, found))
                self.assertEqual(number_of(arrived, found), number)
            self.assertIsNone(picture_at(arrived, count))

    def test_all_packets_whole(self):
        chance = random.Random(40)
        for shape in SMALL + LARGE:
            frame = Frame(*shape)
            picture = random_picture(chance, frame)
            arrived = all_whole(frame, all_packets(frame, picture))
            self.assertEqual(count_pictures(arrived), 1)
            self.assertEqual(number_of(arrived, picture), 0)
            self.assertTrue(picture_at(arrived, 0).same(picture))
            self.assertIsNone(picture_at(arrived, 1))


class Wrong(unittest.TestCase):
    def test_a_picture_that_does_not_fit(self):
        arrived = Arrived(Frame(3, 2, 2, 1, 2))
        for numbers in ((2, 2, 2, 1), (3, 3, 2, 1), (3, 2, 1, 1), (3, 2, 2, 3), (2, 3, 2, 1)):
            picture = blank(Frame(*numbers, 2))
            self.assertIs(agrees(arrived, picture), False)
            self.assertIsNone(number_of(arrived, picture))

    def test_the_tile_side_does_not_matter_for_a_picture(self):
        picture = blank(Frame(3, 2, 2, 1, 1))
        self.assertTrue(agrees(Arrived(Frame(3, 2, 2, 1, 2)), picture))

    def test_a_number_below_0(self):
        for number in (-1, -6, -HUGE):
            out_of_range(self, "number", picture_at, point_34(), number)

    def test_a_number_that_is_too_large(self):
        for number in (6, 7, 11, 12, 13, 10 ** 30, HUGE):
            self.assertIsNone(picture_at(point_34(), number))


if __name__ == "__main__":
    unittest.main()
