"""Points 40 to 43: plans."""

import itertools
import random
import unittest

from packetpicture.arrived import Arrived
from packetpicture.frames import Frame, all_keys, key_number, locate_pixel, tile_pixels
from packetpicture.packets import all_packets
from packetpicture.pictures import blank
from packetpicture.plans import (
    boost, bound, check_rectangle, check_regions, plan, score, touches,
)
from packetpicture.ranges import error_bound
from tests.agreeing import all_whole
from tests.checking import HUGE, out_of_range, random_picture

SHAPES = ((4, 2, 2, 1, 2), (5, 4, 2, 1, 2), (7, 3, 3, 3, 3), (2, 2, 8, 1, 16), (3, 3, 1, 3, 1))


def random_rectangle(chance, most):
    """Return a rectangle near the first `most` columns and rows."""
    return (chance.randrange(most), chance.randrange(most),
            chance.randrange(1, most), chance.randrange(1, most))


def random_regions(chance, most):
    """Return some regions near the first `most` columns and rows."""
    return [random_rectangle(chance, most) + (chance.choice((0, 0, 1, 2, 3, 16)),)
            for _ in range(chance.choice((0, 1, 3, 16)))]


def in_rectangle(frame, rectangle, pixel):
    """Return True if the pixel is in the rectangle (point 40)."""
    left, top, width, height = rectangle
    x, y = pixel % frame.width, pixel // frame.width
    return left <= x < left + width and top <= y < top + height


class Checks(unittest.TestCase):
    def wrong_sides(self):
        """Return rectangles with one number just beyond or far beyond its bounds."""
        rows = []
        for at in range(4):
            least, most = (0, 63) if at < 2 else (1, 64)
            for wrong in (least - 1, most + 1, HUGE, -HUGE):
                row = [1, 1, 1, 1]
                row[at] = wrong
                rows.append(tuple(row))
        return rows

    def test_rectangles_within_their_bounds(self):
        for left, top in itertools.product((0, 1, 62, 63), repeat=2):
            for width, height in itertools.product((1, 2, 63, 64), repeat=2):
                self.assertIsNone(check_rectangle((left, top, width, height)))

    def test_rectangles_beyond_them(self):
        for rectangle in self.wrong_sides():
            out_of_range(self, "rectangle", check_rectangle, rectangle)

    def test_regions_within_their_bounds(self):
        self.assertIsNone(check_regions([]))
        for left, width, worth in itertools.product((0, 63), (1, 64), (0, 1, 15, 16)):
            self.assertIsNone(check_regions([(left, 63 - left, width, 65 - width, worth)]))
        self.assertIsNone(check_regions([(0, 0, 1, 1, 16)] * 16))

    def test_regions_beyond_them(self):
        frame = Frame(4, 2, 2, 1, 2)
        wrong = [[sides + (0,)] for sides in self.wrong_sides()]
        wrong += [[(1, 1, 1, 1, worth)] for worth in (-1, 17, HUGE, -HUGE)]
        wrong += [[(0, 0, 1, 1, 0)] * 15 + rows for rows in wrong]
        wrong += [[(0, 0, 1, 1, 0)] * many for many in (17, 18, 100)]
        for regions in wrong:
            out_of_range(self, "regions", check_regions, regions)
            out_of_range(self, "regions", plan, frame, regions)
            out_of_range(self, "regions", bound, frame, regions, -1)


class Touches(unittest.TestCase):
    def test_inside_partly_outside_and_outside(self):
        # Tiles with the columns 0 and 1, 2 and 3, 4, and the rows 0 and 1, 2 and 3, 4.
        frame = Frame(5, 5, 1, 1, 2)
        for rectangle, wanted in (
            ((0, 0, 1, 1), [0]), ((1, 1, 1, 1), [0]), ((1, 1, 2, 1), [0, 1]), ((1, 1, 1, 2), [0, 3]),
            ((2, 2, 2, 2), [4]), ((1, 1, 4, 4), [0, 1, 2, 3, 4, 5, 6, 7, 8]), ((4, 0, 1, 1), [2]),
            ((4, 4, 1, 1), [8]), ((4, 4, 64, 64), [8]), ((3, 3, 64, 1), [4, 5]), ((3, 3, 1, 64), [4, 7]),
            ((5, 0, 1, 1), []), ((0, 5, 1, 1), []), ((5, 5, 64, 64), []), ((63, 63, 64, 64), []),
            ((0, 0, 64, 64), list(range(9))), ((2, 0, 2, 64), [1, 4, 7]),
        ):
            found = [tile for tile in range(9) if touches(frame, rectangle, tile)]
            self.assertEqual(found, wanted, rectangle)

    def test_against_the_pixels(self):
        chance = random.Random(40)
        for shape in SHAPES:
            frame = Frame(*shape)
            for _ in range(100):
                rectangle = random_rectangle(chance, 9)
                for tile in range(frame.tiles()):
                    wanted = any(in_rectangle(frame, rectangle, pixel) for pixel in tile_pixels(frame, tile))
                    self.assertIs(touches(frame, rectangle, tile), wanted)


class Scores(unittest.TestCase):
    def test_several_regions_on_one_tile(self):
        frame = Frame(4, 2, 2, 1, 2)
        regions = [(0, 0, 4, 2, 3), (0, 0, 1, 1, 5), (3, 1, 1, 1, 1), (4, 0, 9, 9, 16), (0, 0, 1, 1, 4)]
        for rows in (regions, regions[::-1]):
            self.assertEqual([boost(frame, rows, tile) for tile in (0, 1)], [5, 3])
            self.assertEqual([score(frame, rows, key) for key in all_keys(frame)], [6, 4, 5, 3])
        self.assertEqual([boost(frame, [(0, 0, 2, 2, 7)], tile) for tile in (0, 1)], [7, 0])
        self.assertEqual([boost(frame, [], tile) for tile in (0, 1)], [0, 0])

    def test_against_the_words(self):
        chance = random.Random(41)
        for shape in SHAPES:
            frame = Frame(*shape)
            for _ in range(10):
                regions = random_regions(chance, 9)
                for key in all_keys(frame):
                    worths = [region[4] for region in regions if touches(frame, region[:4], key[1])]
                    self.assertEqual(boost(frame, regions, key[1]), max(worths + [0]))
                    self.assertEqual(score(frame, regions, key), key[2] + max(worths + [0]))


class Plans(unittest.TestCase):
    def test_the_example_of_point_43(self):
        frame, regions = Frame(4, 2, 2, 1, 2), [(2, 0, 1, 1, 1)]
        keys = [(0, 1, 1), (0, 0, 1), (0, 1, 0), (0, 0, 0)]
        self.assertEqual(plan(frame, regions), keys)
        self.assertEqual([score(frame, regions, key) for key in keys], [2, 1, 1, 0])
        self.assertEqual([bound(frame, regions, count) for count in range(5)], [4, 2, 2, 1, 0])

    def test_without_regions(self):
        for shape in SHAPES:
            frame = Frame(*shape)
            self.assertEqual(plan(frame, []), all_keys(frame))

    def test_the_order(self):
        chance = random.Random(42)
        for shape in SHAPES:
            frame = Frame(*shape)
            for _ in range(10):
                regions = random_regions(chance, 9)
                kept = list(regions)
                keys = plan(frame, regions)
                self.assertEqual(regions, kept)
                self.assertEqual(sorted(keys), sorted(all_keys(frame)))
                rows = [(-score(frame, regions, key), key_number(frame, key)) for key in keys]
                self.assertEqual(rows, sorted(rows))
                keys.clear()
                self.assertEqual(len(plan(frame, regions)), frame.packets())

    def test_bounds(self):
        chance = random.Random(43)
        for shape in SHAPES:
            frame = Frame(*shape)
            regions = random_regions(chance, 9)
            wanted = [2 ** score(frame, regions, key) for key in plan(frame, regions)] + [0]
            found = [bound(frame, regions, count) for count in range(frame.packets() + 1)]
            self.assertEqual(found, wanted)

    def test_counts_that_there_are_not(self):
        for shape in SHAPES:
            frame = Frame(*shape)
            for wrong in (-1, frame.packets() + 1, HUGE, -HUGE):
                out_of_range(self, "count", bound, frame, [], wrong)
                out_of_range(self, "count", bound, frame, [(0, 0, 1, 1, 1)], wrong)

    def test_large_frames(self):
        frame = Frame(64, 48, 8, 1, 1)
        regions = [(0, 0, 64, 64, 16)] * 16
        self.assertEqual(plan(frame, regions), all_keys(frame))
        self.assertEqual(bound(frame, regions, 0), 2 ** 23)


class Point42(unittest.TestCase):
    def weighted_errors(self, arrived, regions):
        """Return the error bounds, each times 2 to the boost of its tile."""
        frame = arrived.frame
        return [error_bound(arrived, channel, pixel) * 2 ** boost(frame, regions, locate_pixel(frame, pixel)[0])
                for channel in range(frame.channels) for pixel in range(frame.pixels())]

    def test_with_the_first_packets_of_the_plan(self):
        chance = random.Random(44)
        for shape in ((4, 2, 2, 1, 2), (3, 2, 3, 1, 1), (3, 2, 2, 3, 2), (5, 1, 1, 3, 2)):
            frame = Frame(*shape)
            for _ in range(4):
                regions = random_regions(chance, 6)
                packets = dict(all_packets(frame, random_picture(chance, frame)))
                arrived = Arrived(frame)
                for count, key in enumerate(plan(frame, regions)):
                    most = max(self.weighted_errors(arrived, regions))
                    self.assertLessEqual(most, bound(frame, regions, count))
                    arrived.accept(key, 0, packets[key])
                self.assertEqual(max(self.weighted_errors(arrived, regions)), 0)

    def test_no_other_choice_is_better(self):
        chance = random.Random(45)
        for shape in ((4, 2, 2, 1, 2), (3, 1, 2, 3, 3)):
            frame = Frame(*shape)
            packets = all_packets(frame, blank(frame))
            for regions in ([], [(2, 0, 1, 1, 1)], [(0, 0, 1, 1, 3)]):
                for count in range(len(packets)):
                    for chosen in itertools.combinations(packets, count):
                        cut = [(key, code[:chance.choice((1, len(code)))]) for key, code in chosen]
                        for rows in (chosen, cut):
                            most = max(self.weighted_errors(all_whole(frame, rows), regions))
                            self.assertGreaterEqual(most, bound(frame, regions, count))


if __name__ == "__main__":
    unittest.main()
