"""Point 60: sources, and rounds of requests and answers between a source and a viewer."""

import random
import unittest

from packetpicture.crops import crop, crop_frame, paste
from packetpicture.errors import OtherKind, OutsidePicture, PacketTwice
from packetpicture.frames import Frame, all_keys, locate_pixel
from packetpicture.needs import changed
from packetpicture.numbering import agrees, count_pictures, picture_at
from packetpicture.packets import all_packets
from packetpicture.pictures import Picture, blank
from packetpicture.plans import plan
from packetpicture.reading import read_file
from packetpicture.remainder import finish, remainder
from packetpicture.requests import answer, request
from packetpicture.source import Source
from packetpicture.viewer import Viewer
from tests.checking import HUGE, out_of_range, random_picture
from tests.test_plans import random_regions
from tests.test_requests import LOWER, UPPER, point_58, wrong_keys

SHAPES = ((4, 2, 2, 1, 2), (5, 4, 3, 3, 2), (20, 18, 3, 1, 16), (1, 1, 1, 1, 1), (7, 3, 8, 3, 4))


def sources(chance):
    """Return tuples (frame, picture, source)."""
    found = []
    for shape in SHAPES:
        frame = Frame(*shape)
        picture = random_picture(chance, frame)
        found.append((frame, picture, Source(picture, frame.tile)))
    return found


def rows_source():
    """Return a source with two tiles beside each other."""
    return Source(Picture(4, 2, 2, 1, [[0, 1, 2, 3, 0, 0, 0, 0]]), 2)


class Create(unittest.TestCase):
    def test_the_frame_and_the_picture(self):
        for frame, picture, source in sources(random.Random(60)):
            self.assertTrue(source.frame.same(frame))
            self.assertTrue(source.shown().same(picture))

    def test_the_side_of_a_tile(self):
        picture = blank(Frame(3, 2, 2, 1, 2))
        for tile in (1, 2, 15, 16):
            self.assertEqual(Source(picture, tile).frame.tile, tile)
        for tile in (0, 17, -1, HUGE, -HUGE):
            out_of_range(self, "tile", Source, picture, tile)


class Change(unittest.TestCase):
    def test_the_changed_keys(self):
        # The keys of point 46: 2^b is the largest power of 2 that divides v + 1.
        source = Source(blank(Frame(1, 1, 3, 1, 1)), 1)
        for value, plane in ((1, 0), (2, 1), (3, 0), (4, 2), (5, 0), (6, 1), (7, 0)):
            self.assertEqual(source.change(0, 0, value), [(0, 0, plane)])
            self.assertEqual(source.shown().rows(), [[value]])
        self.assertEqual(source.change(0, 0, 0), [(0, 0, 2)])

    def test_three_channels(self):
        source = Source(blank(Frame(3, 1, 2, 3, 1)), 2)
        self.assertEqual(source.change(0, 2, 1), [(1, 1, 0)])
        self.assertEqual(source.change(2, 2, 1), [(2, 1, 0)])
        self.assertEqual(source.change(1, 0, 1), [(0, 0, 0), (1, 0, 0), (2, 0, 0)])
        self.assertEqual(source.shown().rows(), [[0, 0, 1], [1, 0, 0], [0, 0, 1]])

    def test_the_value_that_is_there(self):
        source = rows_source()
        kept = source.shown()
        self.assertEqual(source.change(0, 2, 2), [])
        self.assertTrue(source.shown().same(kept))
        # It is a change, so it can be undone.
        self.assertIs(source.undo(), True)
        self.assertTrue(source.shown().same(kept))
        self.assertIs(source.undo(), False)

    def test_any_changes(self):
        chance = random.Random(61)
        for frame, picture, source in sources(chance):
            for _ in range(10):
                channel, pixel = chance.randrange(frame.channels), chance.randrange(frame.pixels())
                value = chance.randrange(2 ** frame.depth)
                other = picture.with_value(channel, pixel, value)
                keys = source.change(channel, pixel, value)
                self.assertEqual(keys, changed(frame, picture, other))
                self.assertTrue(all(key[1] == locate_pixel(frame, pixel)[0] for key in keys))
                keys.append(None)
                self.assertTrue(source.shown().same(other))
                picture = other

    def test_each_error(self):
        source = Source(blank(Frame(3, 2, 2, 3, 2)), 2)
        for channel in (-1, 3, HUGE, -HUGE):
            out_of_range(self, "channel", source.change, channel, 6, 4)
        for pixel in (-1, 6, HUGE, -HUGE):
            out_of_range(self, "pixel", source.change, 2, pixel, -1)
        for value in (-1, 4, HUGE, -HUGE):
            out_of_range(self, "value", source.change, 2, 5, value)
        self.assertTrue(source.shown().same(blank(source.frame)))
        self.assertIs(source.undo(), False)

    def test_the_given_picture_is_not_changed(self):
        picture = Picture(2, 2, 2, 1, [[0, 1, 2, 3]])
        source = Source(picture, 2)
        first = source.shown()
        source.change(0, 0, 3)
        source.paste((0, 0, 1, 1), blank(source.frame))
        for kept in (picture, first):
            self.assertEqual(kept.rows(), [[0, 1, 2, 3]])
        rows = source.shown().rows()
        rows[0][0] = 3
        self.assertEqual(source.shown().rows(), [[0, 0, 0, 0]])


class Paste(unittest.TestCase):
    def test_the_example_of_point_48(self):
        source = rows_source()
        keys = source.paste((0, 0, 1, 1), Picture(2, 2, 2, 1, [[3, 2, 1, 1]]))
        self.assertEqual(source.shown().rows(), [[3, 2, 2, 3, 1, 1, 0, 0]])
        self.assertEqual(keys, [(0, 0, 1), (0, 0, 0)])

    def test_what_is_there_already(self):
        source = rows_source()
        part = crop(source.frame, (1, 0, 1, 1), source.shown())
        self.assertEqual(source.paste((1, 0, 1, 1), part), [])
        self.assertIs(source.undo(), True)
        self.assertIs(source.undo(), False)

    def test_any_parts(self):
        chance = random.Random(62)
        for frame, picture, source in sources(chance):
            for _ in range(5):
                left, top = chance.randrange(frame.across()), chance.randrange(frame.down())
                rectangle = (left, top, chance.randrange(1, frame.across() - left + 1),
                             chance.randrange(1, frame.down() - top + 1))
                part = random_picture(chance, crop_frame(frame, rectangle))
                other = paste(frame, rectangle, picture, part)
                self.assertEqual(source.paste(rectangle, part), changed(frame, picture, other))
                self.assertTrue(source.shown().same(other))
                picture = other

    def test_each_error(self):
        source = rows_source()
        wrong = blank(Frame(1, 1, 1, 1, 1))
        for rectangle in ((-1, 0, 1, 1), (0, 64, 1, 1), (0, 0, 0, 1), (0, 0, 1, 65)):
            out_of_range(self, "rectangle", source.paste, rectangle, wrong)
        for rectangle in ((2, 0, 1, 1), (0, 1, 1, 1), (1, 0, 2, 1), (0, 0, 2, 2), (63, 63, 64, 64)):
            with self.assertRaises(OutsidePicture):
                source.paste(rectangle, wrong)
        for numbers in ((1, 2, 2, 1), (2, 1, 2, 1), (2, 2, 1, 1), (2, 2, 2, 3), (4, 2, 2, 1)):
            with self.assertRaises(OtherKind):
                source.paste((0, 0, 1, 1), blank(Frame(*numbers, 2)))
        self.assertTrue(source.shown().same(rows_source().shown()))
        self.assertIs(source.undo(), False)


class Undo(unittest.TestCase):
    def test_16_and_17_changes_and_pastes(self):
        for count in (0, 1, 15, 16, 17, 40):
            source = rows_source()
            pictures = [source.shown()]
            for at in range(count):
                if at % 3 == 2:
                    source.paste((at % 2, 0, 1, 1), Picture(2, 2, 2, 1, [[at // 3 % 4, 1, at % 4, 0]]))
                else:
                    source.change(0, at % 8, (at + 1) % 4)
                pictures.append(source.shown())
            for _ in range(min(count, 16)):
                pictures.pop()
                self.assertIs(source.undo(), True)
                self.assertTrue(source.shown().same(pictures[-1]))
            self.assertIs(source.undo(), False)
            self.assertTrue(source.shown().same(pictures[-1]))
            self.assertEqual(len(pictures), max(count - 16, 0) + 1)

    def test_a_change_after_an_undo(self):
        source = rows_source()
        source.change(0, 0, 3)
        source.undo()
        self.assertEqual(source.change(0, 7, 1), [(0, 1, 0)])
        self.assertEqual(source.shown().row(0), [0, 1, 2, 3, 0, 0, 0, 1])
        self.assertEqual([source.undo(), source.undo()], [True, False])

    def test_after_an_undo_the_old_picture_is_sent(self):
        source = rows_source()
        before = source.send([((0, 0, 1), 0)], 100)
        source.change(0, 0, 3)
        self.assertNotEqual(source.send([((0, 0, 1), 0)], 100), before)
        source.undo()
        self.assertEqual(source.send([((0, 0, 1), 0)], 100), before)


class Send(unittest.TestCase):
    def test_the_example_of_point_58(self):
        frame, picture, rows = point_58()
        source = Source(picture, frame.tile)
        self.assertEqual(source.send(rows, 4), [(UPPER, 2, "111"), (LOWER, 3, "0")])
        self.assertEqual(source.send_remainder(rows), "100")

    def test_as_the_functions(self):
        chance = random.Random(63)
        for frame, picture, source in sources(chance):
            for channel in range(frame.channels):
                pixel, value = chance.randrange(frame.pixels()), chance.randrange(2 ** frame.depth)
                source.change(channel, pixel, value)
                picture = picture.with_value(channel, pixel, value)
            rows = [(key, chance.randrange(4)) for key in plan(frame, random_regions(chance, 6))]
            for count in (0, 1, 7, 1000000):
                self.assertEqual(source.send(rows, count), answer(frame, picture, rows, count))
            self.assertEqual(source.send_remainder(rows), remainder(frame, picture, rows))

    def test_each_error(self):
        frame, picture, rows = point_58()
        source = Source(picture, frame.tile)
        for name, key in wrong_keys(frame):
            out_of_range(self, name, source.send, [(key, -1)], -1)
            out_of_range(self, name, source.send_remainder, [(key, -1)])
        for start in (-1, 65536):
            out_of_range(self, "start", source.send, [(UPPER, 0), (UPPER, start)], -1)
            out_of_range(self, "start", source.send_remainder, [(UPPER, 0), (UPPER, start)])
        with self.assertRaises(PacketTwice):
            source.send(rows + rows, -1)
        with self.assertRaises(PacketTwice):
            source.send_remainder(rows + rows)
        for count in (-1, 1000001, HUGE, -HUGE):
            out_of_range(self, "count", source.send, rows, count)


class FileBytes(unittest.TestCase):
    def test_all_packets_in_the_order_of_the_plan(self):
        chance = random.Random(64)
        for frame, picture, source in sources(chance):
            for regions in ([], random_regions(chance, 9), [(0, 0, 1, 1, 3)]):
                codes = dict(all_packets(frame, picture))
                read_frame, packets, flaw, whole = read_file(source.file_bytes(regions))
                self.assertTrue(read_frame.same(frame))
                self.assertEqual(packets, [(key, codes[key]) for key in plan(frame, regions)])
                self.assertEqual((flaw, whole), (None, True))

    def test_the_changed_picture(self):
        source = rows_source()
        source.change(0, 7, 3)
        viewer = Viewer(source.frame)
        row = source.file_bytes([(2, 0, 1, 1, 1)])
        self.assertEqual([key for key, _ in read_file(row)[1]], plan(source.frame, [(2, 0, 1, 1, 1)]))
        viewer.receive_file(row)
        self.assertTrue(picture_at(viewer.state(), 0).same(source.shown()))
        row.clear()
        self.assertNotEqual(source.file_bytes([]), [])

    def test_wrong_regions(self):
        for regions in ([(0, 0, 0, 1, 0)], [(0, 0, 1, 1, 17)], [(64, 0, 1, 1, 1)], [(0, 0, 1, 1, 1)] * 17):
            out_of_range(self, "regions", rows_source().file_bytes, regions)


class Rounds(unittest.TestCase):
    def test_until_the_request_is_empty(self):
        chance = random.Random(65)
        for frame, picture, source in sources(chance):
            viewer = Viewer(frame)
            regions = random_regions(chance, 9)
            while request(viewer.state(), regions):
                pieces = source.send(request(viewer.state(), regions), chance.choice((1, 50, 500, 5000)))
                chance.shuffle(pieces)
                # Some pieces are lost, but one of each answer arrives.
                for piece in pieces[:chance.randrange(len(pieces)) + 1]:
                    self.assertEqual(viewer.receive(*piece), len(piece[2]))
                self.assertTrue(agrees(viewer.state(), picture))
            self.assertEqual(count_pictures(viewer.state()), 1)
            self.assertTrue(picture_at(viewer.state(), 0).same(picture))

    def test_the_rest_as_a_remainder(self):
        chance = random.Random(66)
        for frame, picture, source in sources(chance):
            viewer = Viewer(frame)
            for _ in range(3):
                state = viewer.state()
                self.assertTrue(finish(state, source.send_remainder(request(state, []))).same(picture))
                for piece in source.send(request(state, []), 40):
                    viewer.receive(*piece)

    def test_only_the_changed_packets_are_sent_again(self):
        chance = random.Random(67)
        for frame, picture, source in sources(chance):
            viewer = Viewer(frame)
            keys = source.change(0, 0, 2 ** frame.depth - 1 - picture.value(0, 0))
            for piece in source.send([(key, 0) for key in all_keys(frame) if key not in keys], 1000000):
                viewer.receive(*piece)
            source.undo()
            for piece in source.send(request(viewer.state(), []), 1000000):
                viewer.receive(*piece)
            self.assertTrue(picture_at(viewer.state(), 0).same(picture))


if __name__ == "__main__":
    unittest.main()
