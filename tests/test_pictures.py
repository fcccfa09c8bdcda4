"""Points 2, 4 and 5: pictures."""

import unittest

from packetpicture.frames import Frame
from packetpicture.pictures import Picture, blank, fits_frame
from tests.checking import HUGE, out_of_range

ROWS = [[0, 1, 2, 3, 2, 1], [3, 3, 3, 0, 0, 0], [1, 0, 1, 0, 1, 0]]


def small():
    """Return a picture with three channels."""
    return Picture(3, 2, 2, 3, ROWS)


class Pictures(unittest.TestCase):
    def test_fields_and_values(self):
        picture = small()
        self.assertEqual(
            (picture.width, picture.height, picture.depth, picture.channels), (3, 2, 2, 3))
        self.assertEqual(picture.rows(), ROWS)
        for channel in range(3):
            self.assertEqual(picture.row(channel), ROWS[channel])
            for pixel in range(6):
                self.assertEqual(picture.value(channel, pixel), ROWS[channel][pixel])

    def test_each_number_beyond_its_bounds(self):
        for wrong in (0, -1, 65, HUGE, -HUGE):
            out_of_range(self, "width", Picture, wrong, 1, 1, 1, [[0]])
            out_of_range(self, "height", Picture, 1, wrong, 1, 1, [[0]])
        for wrong in (0, -1, 9, HUGE, -HUGE):
            out_of_range(self, "depth", Picture, 1, 1, wrong, 1, [[0]])
        for wrong in (0, -1, 2, 4, HUGE, -HUGE):
            out_of_range(self, "channels", Picture, 1, 1, 1, wrong, [[0]])

    def test_the_first_wrong_number_is_named(self):
        out_of_range(self, "width", Picture, 0, 0, 0, 0, [])
        out_of_range(self, "height", Picture, 64, 0, 0, 0, [])
        out_of_range(self, "depth", Picture, 64, 64, 0, 0, [])
        out_of_range(self, "channels", Picture, 64, 64, 8, 0, [])
        out_of_range(self, "size", Picture, 64, 64, 8, 1, [])
        out_of_range(self, "values", Picture, 64, 48, 8, 1, [])

    def test_size(self):
        for width, height, channels in ((64, 48, 1), (32, 32, 3)):
            rows = [[1] * (width * height)] * channels
            self.assertEqual(Picture(width, height, 1, channels, rows).rows(), rows)
        for width, height, channels in ((64, 49, 1), (61, 51, 1), (64, 17, 3), (25, 41, 3)):
            rows = [[1] * (width * height)] * channels
            out_of_range(self, "size", Picture, width, height, 1, channels, rows)

    def test_another_number_of_lists(self):
        for rows in ([], ROWS[:1], ROWS[:2], ROWS + [ROWS[0]]):
            out_of_range(self, "values", Picture, 3, 2, 2, 3, rows)
        for rows in ([], ROWS, ROWS[:2]):
            out_of_range(self, "values", Picture, 3, 2, 2, 1, rows)

    def test_a_list_of_another_length(self):
        for row in ([], [0] * 5, [0] * 7):
            for channel in range(3):
                rows = [list(kept) for kept in ROWS]
                rows[channel] = row
                out_of_range(self, "values", Picture, 3, 2, 2, 3, rows)

    def test_a_value_out_of_range(self):
        for depth in range(1, 9):
            most = 2 ** depth - 1
            self.assertEqual(Picture(2, 1, depth, 1, [[0, most]]).row(0), [0, most])
            for wrong in (-1, most + 1, HUGE, -HUGE):
                out_of_range(self, "values", Picture, 2, 1, depth, 1, [[wrong, 0]])
                out_of_range(self, "values", Picture, 2, 1, depth, 1, [[0, wrong]])
                out_of_range(self, "values", Picture, 1, 1, depth, 3, [[0], [0], [wrong]])

    def test_no_list_is_kept(self):
        rows = [list(row) for row in ROWS]
        picture = Picture(3, 2, 2, 3, rows)
        rows[0][0] = 3
        rows[1].append(1)
        rows.pop()
        self.assertEqual(picture.rows(), ROWS)
        picture.rows()[0][0] = 3
        picture.rows().clear()
        picture.row(1).clear()
        self.assertEqual(picture.rows(), ROWS)

    def test_lists_that_are_shared_are_told_apart(self):
        row = [0, 0]
        picture = Picture(2, 1, 1, 3, [row, row, row])
        self.assertEqual(picture.with_value(1, 0, 1).rows(), [[0, 0], [1, 0], [0, 0]])

    def test_the_values_passed_are_not_changed(self):
        rows = [list(row) for row in ROWS]
        Picture(3, 2, 2, 3, rows).with_value(0, 0, 3)
        self.assertEqual(rows, ROWS)

    def test_same(self):
        picture = small()
        self.assertIs(picture.same(picture), True)
        self.assertIs(picture.same(small()), True)
        self.assertIs(picture.same(Picture(2, 3, 2, 3, ROWS)), False)
        self.assertIs(picture.same(Picture(3, 2, 3, 3, ROWS)), False)
        self.assertIs(picture.same(Picture(3, 2, 2, 1, ROWS[:1])), False)
        self.assertIs(picture.same(Picture(6, 1, 2, 3, ROWS)), False)
        for channel in range(3):
            for pixel in range(6):
                other = picture.with_value(channel, pixel, 3 - picture.value(channel, pixel))
                self.assertIs(picture.same(other), False)

    def test_with_value(self):
        picture = small()
        for channel in range(3):
            for pixel in range(6):
                for value in range(4):
                    wanted = [list(row) for row in ROWS]
                    wanted[channel][pixel] = value
                    self.assertEqual(picture.with_value(channel, pixel, value).rows(), wanted)
        self.assertEqual(picture.rows(), ROWS)
        other = picture.with_value(0, 0, 1)
        self.assertEqual((other.width, other.height, other.depth, other.channels), (3, 2, 2, 3))

    def test_with_value_refuses(self):
        picture = small()
        for wrong in (-1, 3, HUGE, -HUGE):
            out_of_range(self, "channel", picture.with_value, wrong, -1, -1)
        for wrong in (-1, 6, HUGE, -HUGE):
            out_of_range(self, "pixel", picture.with_value, 2, wrong, -1)
        for wrong in (-1, 4, HUGE, -HUGE):
            out_of_range(self, "value", picture.with_value, 2, 5, wrong)
        out_of_range(self, "channel", Picture(1, 1, 1, 1, [[0]]).with_value, 1, 0, 0)
        self.assertEqual(picture.rows(), ROWS)

    def test_framed(self):
        for tile in (1, 2, 16):
            self.assertTrue(small().framed(tile).same(Frame(3, 2, 2, 3, tile)))
        for tile in (0, -1, 17, HUGE, -HUGE):
            out_of_range(self, "tile", small().framed, tile)

    def test_fits_frame(self):
        picture = small()
        for tile in (1, 2, 16):
            self.assertIs(fits_frame(Frame(3, 2, 2, 3, tile), picture), True)
        for numbers in ((2, 2, 2, 3), (3, 3, 2, 3), (3, 2, 1, 3), (3, 2, 2, 1), (2, 3, 2, 3)):
            self.assertIs(fits_frame(Frame(*numbers, 2), picture), False)

    def test_blank(self):
        for numbers in ((3, 2, 2, 3, 2), (1, 1, 8, 1, 16), (64, 48, 1, 1, 1)):
            frame = Frame(*numbers)
            picture = blank(frame)
            self.assertTrue(fits_frame(frame, picture))
            self.assertEqual(picture.rows(), [[0] * frame.pixels()] * frame.channels)


if __name__ == "__main__":
    unittest.main()
