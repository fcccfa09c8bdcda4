"""Points 47 and 48: crops and pastes."""

import itertools
import random
import unittest

from packetpicture.crops import check_tiles, crop, crop_frame, paste
from packetpicture.errors import OtherKind, OutsidePicture
from packetpicture.frames import Frame, all_keys
from packetpicture.grays import packet_bits
from packetpicture.pictures import Picture, blank
from tests.checking import HUGE, out_of_range, random_picture

SHAPES = ((4, 2, 2, 1, 2), (5, 4, 2, 3, 2), (7, 5, 3, 1, 3), (2, 3, 1, 3, 1), (3, 3, 4, 1, 16), (17, 16, 1, 1, 16))


def rectangles(frame):
    """Return all rectangles of tiles that lie in the frame."""
    across, down = frame.across(), frame.down()
    return [(left, top, width, height)
            for left in range(across) for top in range(down)
            for width in range(1, across - left + 1) for height in range(1, down - top + 1)]


def columns_and_rows(frame, rectangle):
    """Return the columns and the rows of the whole picture that the crop has."""
    left, top, width, height = rectangle
    columns = [x for x in range(frame.width) if left <= x // frame.tile < left + width]
    return columns, [y for y in range(frame.height) if top <= y // frame.tile < top + height]


class Example(unittest.TestCase):
    def test_point_48(self):
        picture = Picture(4, 2, 2, 1, [[0, 1, 2, 3, 0, 0, 0, 0]])
        part = Picture(2, 2, 2, 1, [[3, 2, 1, 1]])
        frame = picture.framed(2)
        self.assertEqual(crop(frame, (1, 0, 1, 1), picture).rows(), [[2, 3, 0, 0]])
        self.assertEqual(paste(frame, (0, 0, 1, 1), picture, part).rows(), [[3, 2, 2, 3, 1, 1, 0, 0]])
        self.assertEqual(picture.rows(), [[0, 1, 2, 3, 0, 0, 0, 0]])
        self.assertEqual(part.rows(), [[3, 2, 1, 1]])


class Crops(unittest.TestCase):
    def test_frames_and_values(self):
        chance = random.Random(47)
        for shape in SHAPES:
            frame = Frame(*shape)
            picture = random_picture(chance, frame)
            rows = picture.rows()
            for rectangle in rectangles(frame):
                columns, lines = columns_and_rows(frame, rectangle)
                part = crop_frame(frame, rectangle)
                self.assertIsNone(check_tiles(frame, rectangle))
                wanted = Frame(len(columns), len(lines), frame.depth, frame.channels, frame.tile)
                self.assertTrue(part.same(wanted))
                found = crop(frame, rectangle, picture)
                self.assertEqual((found.width, found.height, found.depth, found.channels),
                                 (part.width, part.height, part.depth, part.channels))
                self.assertEqual(found.rows(), [[row[y * frame.width + x] for y in lines for x in columns]
                                                for row in rows])
            self.assertEqual(picture.rows(), rows)

    def test_packets_of_the_crop(self):
        chance = random.Random(48)
        for shape in SHAPES:
            frame = Frame(*shape)
            picture = random_picture(chance, frame)
            for rectangle in rectangles(frame):
                part, found = crop_frame(frame, rectangle), crop(frame, rectangle, picture)
                for channel, tile, plane in all_keys(part):
                    column = rectangle[0] + tile % part.across()
                    row = rectangle[1] + tile // part.across()
                    key = (channel, row * frame.across() + column, plane)
                    self.assertEqual(packet_bits(part, found, (channel, tile, plane)),
                                     packet_bits(frame, picture, key))

    def test_all_tiles(self):
        chance = random.Random(49)
        for shape in SHAPES:
            frame = Frame(*shape)
            picture = random_picture(chance, frame)
            rectangle = (0, 0, frame.across(), frame.down())
            self.assertTrue(crop(frame, rectangle, picture).same(picture))
            self.assertTrue(crop_frame(frame, rectangle).same(frame))


class Pastes(unittest.TestCase):
    def test_the_part_and_what_is_around_it(self):
        chance = random.Random(50)
        for shape in SHAPES:
            frame = Frame(*shape)
            picture = random_picture(chance, frame)
            rows = picture.rows()
            for rectangle in rectangles(frame):
                part = random_picture(chance, crop_frame(frame, rectangle))
                kept = part.rows()
                found = paste(frame, rectangle, picture, part)
                self.assertTrue(crop(frame, rectangle, found).same(part))
                columns, lines = columns_and_rows(frame, rectangle)
                inside = [y * frame.width + x for y in lines for x in columns]
                for channel, pixel in itertools.product(range(frame.channels), range(frame.pixels())):
                    if pixel not in inside:
                        self.assertEqual(found.value(channel, pixel), rows[channel][pixel])
                self.assertEqual((picture.rows(), part.rows()), (rows, kept))

    def test_the_crop_itself(self):
        chance = random.Random(51)
        for shape in SHAPES:
            frame = Frame(*shape)
            picture = random_picture(chance, frame)
            for rectangle in rectangles(frame):
                part = crop(frame, rectangle, picture)
                self.assertTrue(paste(frame, rectangle, picture, part).same(picture))


class Errors(unittest.TestCase):
    def setUp(self):
        # Three tiles across, two down, the last ones cut.
        self.frame = Frame(5, 3, 2, 1, 2)
        self.other = blank(Frame(4, 3, 2, 1, 2))
        self.calls = (
            check_tiles, crop_frame,
            lambda frame, rectangle: crop(frame, rectangle, self.other),
            lambda frame, rectangle: paste(frame, rectangle, self.other, self.other),
        )

    def test_rectangles_out_of_range(self):
        for rectangle in ((-1, 9, 9, 9), (64, 9, 9, 9), (9, -1, 9, 9), (9, 64, 9, 9), (9, 9, 0, 9),
                          (9, 9, 65, 9), (9, 9, 9, 0), (9, 9, 9, 65), (HUGE, 0, 1, 1), (0, 0, 1, -HUGE)):
            for function in self.calls:
                out_of_range(self, "rectangle", function, self.frame, rectangle)

    def test_rectangles_that_stick_out(self):
        for rectangle in ((3, 0, 1, 1), (0, 2, 1, 1), (0, 0, 4, 1), (0, 0, 1, 3), (2, 1, 2, 1), (2, 1, 1, 2),
                          (1, 0, 3, 2), (0, 1, 3, 2), (63, 63, 64, 64)):
            for function in self.calls:
                with self.assertRaises(OutsidePicture):
                    function(self.frame, rectangle)

    def test_pictures_that_do_not_fit(self):
        fitting = blank(self.frame)
        rectangle = (1, 0, 2, 1)
        part = blank(Frame(3, 2, 2, 1, 2))
        self.assertTrue(paste(self.frame, rectangle, fitting, part).same(fitting))
        with self.assertRaises(OtherKind):
            crop(self.frame, rectangle, self.other)
        for numbers in ((5, 3, 1, 1), (5, 3, 2, 3), (5, 2, 2, 1), (3, 5, 2, 1)):
            with self.assertRaises(OtherKind):
                crop(self.frame, rectangle, blank(Frame(*numbers, 2)))
            with self.assertRaises(OtherKind):
                paste(self.frame, rectangle, blank(Frame(*numbers, 2)), part)
        for numbers in ((4, 2, 2, 1), (3, 3, 2, 1), (3, 2, 3, 1), (3, 2, 2, 3), (2, 3, 2, 1), (5, 3, 2, 1)):
            with self.assertRaises(OtherKind):
                paste(self.frame, rectangle, fitting, blank(Frame(*numbers, 2)))


if __name__ == "__main__":
    unittest.main()
