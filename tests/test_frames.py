"""Points 4, 5, 10, 11, 12 and the keys of point 15."""

import unittest

from packetpicture import frames
from packetpicture.frames import (
    Frame, all_keys, check_key, check_pixel, key_at, key_number, locate_pixel,
    tile_corner, tile_pixels, tile_size,
)
from tests.checking import HUGE, out_of_range

NUMBERS = ("width", "height", "depth", "channels", "tile")
GOOD = (4, 3, 2, 1, 2)
BOUNDS = {"width": 64, "height": 64, "depth": 8, "tile": 16}

SHAPES = (
    (1, 1, 1, 1, 1), (1, 1, 8, 3, 16), (5, 4, 2, 1, 2), (5, 4, 3, 3, 3), (64, 48, 1, 1, 16),
    (32, 32, 2, 3, 7), (17, 1, 2, 1, 16), (1, 17, 2, 3, 16), (6, 6, 1, 1, 3), (3, 7, 2, 1, 16),
)


def changed(**changes):
    """Return the arguments of a good frame with some of them changed."""
    named = dict(zip(NUMBERS, GOOD))
    named.update(changes)
    return [named[name] for name in NUMBERS]


class Frames(unittest.TestCase):
    def test_limits(self):
        self.assertEqual(
            (frames.SIDE_MOST, frames.VALUES_MOST, frames.DEPTH_MOST, frames.TILE_MOST),
            (64, 3072, 8, 16))

    def test_fields(self):
        frame = Frame(5, 4, 3, 1, 2)
        self.assertEqual(
            (frame.width, frame.height, frame.depth, frame.channels, frame.tile),
            (5, 4, 3, 1, 2))

    def test_each_number_at_its_bounds(self):
        for name, most in BOUNDS.items():
            for value in (1, most):
                self.assertEqual(getattr(Frame(*changed(**{name: value})), name), value)
        for channels in (1, 3):
            self.assertEqual(Frame(*changed(channels=channels)).channels, channels)

    def test_each_number_beyond_its_bounds(self):
        for name, most in BOUNDS.items():
            for value in (0, -1, -HUGE, most + 1, HUGE):
                out_of_range(self, name, Frame, *changed(**{name: value}))
        for channels in (0, 2, 4, -1, -3, HUGE, -HUGE):
            out_of_range(self, "channels", Frame, *changed(channels=channels))

    def test_the_first_wrong_number_is_named(self):
        for first in range(len(NUMBERS)):
            numbers = list(GOOD)
            for later in range(first, len(NUMBERS)):
                numbers[later] = 0
            out_of_range(self, NUMBERS[first], Frame, *numbers)
            for later in range(first, len(NUMBERS)):
                numbers[later] = HUGE
            out_of_range(self, NUMBERS[first], Frame, *numbers)

    def test_size(self):
        for width, height, channels in ((64, 48, 1), (48, 64, 1), (32, 32, 3), (64, 16, 3)):
            self.assertEqual(Frame(width, height, 1, channels, 1).pixels() * channels, 3072)
        for width, height, channels in ((64, 49, 1), (61, 51, 1), (64, 64, 1), (64, 64, 3),
                                        (33, 32, 3), (25, 41, 3)):
            out_of_range(self, "size", Frame, width, height, 1, channels, 1)

    def test_a_wrong_tile_comes_before_the_size(self):
        out_of_range(self, "tile", Frame, 64, 64, 1, 3, 17)
        out_of_range(self, "tile", Frame, 64, 64, 1, 3, 0)
        out_of_range(self, "channels", Frame, 64, 64, 1, 2, 1)

    def test_numbers_of_tiles_pixels_and_keys(self):
        frame = Frame(5, 4, 3, 3, 2)
        self.assertEqual((frame.across(), frame.down(), frame.tiles()), (3, 2, 6))
        self.assertEqual((frame.pixels(), frame.packets()), (20, 54))
        frame = Frame(5, 4, 3, 1, 16)
        self.assertEqual((frame.across(), frame.down(), frame.tiles()), (1, 1, 1))
        self.assertEqual(frame.packets(), 3)
        frame = Frame(6, 9, 1, 1, 3)
        self.assertEqual((frame.across(), frame.down(), frame.tiles()), (2, 3, 6))

    def test_same(self):
        frame = Frame(*GOOD)
        self.assertIs(frame.same(frame), True)
        self.assertIs(frame.same(Frame(*GOOD)), True)
        for name, other in (("width", 5), ("height", 4), ("depth", 3), ("channels", 3), ("tile", 3)):
            self.assertIs(frame.same(Frame(*changed(**{name: other}))), False, name)


class Tiles(unittest.TestCase):
    def test_example_of_point_12(self):
        frame = Frame(5, 4, 1, 1, 2)
        self.assertEqual(
            [tile_pixels(frame, tile) for tile in range(6)],
            [[0, 1, 5, 6], [2, 3, 7, 8], [4, 9], [10, 11, 15, 16], [12, 13, 17, 18], [14, 19]])

    def test_corners_and_sizes_of_cut_tiles(self):
        frame = Frame(5, 7, 1, 1, 3)
        self.assertEqual(
            [tile_corner(frame, tile) for tile in range(6)],
            [(0, 0), (3, 0), (0, 3), (3, 3), (0, 6), (3, 6)])
        self.assertEqual(
            [tile_size(frame, tile) for tile in range(6)],
            [(3, 3), (2, 3), (3, 3), (2, 3), (3, 1), (2, 1)])

    def test_a_tile_larger_than_the_picture(self):
        frame = Frame(3, 2, 1, 1, 16)
        self.assertEqual(tile_size(frame, 0), (3, 2))
        self.assertEqual(tile_pixels(frame, 0), [0, 1, 2, 3, 4, 5])

    def test_tiles_that_are_not_cut(self):
        frame = Frame(6, 4, 1, 1, 2)
        self.assertEqual({tile_size(frame, tile) for tile in range(6)}, {(2, 2)})

    def test_each_pixel_is_in_exactly_one_tile_and_place(self):
        for shape in SHAPES:
            frame = Frame(*shape)
            found = [tile_pixels(frame, tile) for tile in range(frame.tiles())]
            self.assertEqual(sorted(sum(found, [])), list(range(frame.pixels())))
            for tile, pixels in enumerate(found):
                width, height = tile_size(frame, tile)
                self.assertEqual(len(pixels), width * height)

    def test_locate_pixel_against_tile_pixels(self):
        for shape in SHAPES:
            frame = Frame(*shape)
            for tile in range(frame.tiles()):
                for place, pixel in enumerate(tile_pixels(frame, tile)):
                    self.assertEqual(locate_pixel(frame, pixel), (tile, place))

    def test_a_returned_list_is_new(self):
        frame = Frame(5, 4, 1, 1, 2)
        tile_pixels(frame, 0).append(99)
        all_keys(frame).clear()
        self.assertEqual(tile_pixels(frame, 0), [0, 1, 5, 6])
        self.assertEqual(len(all_keys(frame)), 6)


class Keys(unittest.TestCase):
    def test_order_of_keys(self):
        self.assertEqual(
            all_keys(Frame(2, 1, 2, 3, 1)),
            [(0, 0, 1), (0, 1, 1), (1, 0, 1), (1, 1, 1), (2, 0, 1), (2, 1, 1),
             (0, 0, 0), (0, 1, 0), (1, 0, 0), (1, 1, 0), (2, 0, 0), (2, 1, 0)])

    def test_keys_and_numbers_against_each_other(self):
        for shape in SHAPES:
            frame = Frame(*shape)
            keys = all_keys(frame)
            self.assertEqual(len(keys), frame.packets())
            self.assertEqual(len(set(keys)), frame.packets())
            for number, key in enumerate(keys):
                self.assertIs(type(key), tuple)
                self.assertEqual(key_number(frame, key), number)
                self.assertEqual(key_at(frame, number), key)
                self.assertIsNone(check_key(frame, key))

    def test_the_order_is_by_plane_then_channel_then_tile(self):
        for shape in SHAPES:
            frame = Frame(*shape)
            keys = all_keys(frame)
            self.assertEqual(keys, sorted(keys, key=lambda key: (-key[2], key[0], key[1])))

    def test_check_key(self):
        for channels, channel_most in ((1, 0), (3, 2)):
            frame = Frame(5, 4, 3, channels, 2)
            for wrong in (-1, channel_most + 1, HUGE, -HUGE):
                out_of_range(self, "channel", check_key, frame, (wrong, 0, 0))
            for wrong in (-1, 6, HUGE, -HUGE):
                out_of_range(self, "tile", check_key, frame, (0, wrong, 0))
            for wrong in (-1, 3, HUGE, -HUGE):
                out_of_range(self, "plane", check_key, frame, (0, 0, wrong))
            self.assertIsNone(check_key(frame, (channel_most, 5, 2)))
            self.assertIsNone(check_key(frame, (0, 0, 0)))

    def test_check_key_names_the_first_wrong_part(self):
        frame = Frame(5, 4, 3, 1, 2)
        out_of_range(self, "channel", check_key, frame, (1, 6, 3))
        out_of_range(self, "channel", check_key, frame, (-1, -1, -1))
        out_of_range(self, "tile", check_key, frame, (0, 6, 3))
        out_of_range(self, "tile", check_key, frame, (0, -1, -1))

    def test_check_pixel(self):
        for channels, channel_most in ((1, 0), (3, 2)):
            frame = Frame(5, 4, 3, channels, 2)
            self.assertIsNone(check_pixel(frame, 0, 0))
            self.assertIsNone(check_pixel(frame, channel_most, 19))
            for wrong in (-1, channel_most + 1, HUGE, -HUGE):
                out_of_range(self, "channel", check_pixel, frame, wrong, 0)
                out_of_range(self, "channel", check_pixel, frame, wrong, 20)
            for wrong in (-1, 20, HUGE, -HUGE):
                out_of_range(self, "pixel", check_pixel, frame, 0, wrong)


if __name__ == "__main__":
    unittest.main()
