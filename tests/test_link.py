"""Point 73: the link."""

import random
import unittest

from packetpicture.arrived import Arrived
from packetpicture.errors import KeeperFull, NoLetter, NotKept, PowerCut
from packetpicture.frames import Frame
from packetpicture.link import Link
from packetpicture.numbering import agrees, count_pictures, picture_at
from packetpicture.pictures import Picture, blank
from packetpicture.requests import answer, missing, request
from tests.agreeing import SMALL, agreeing, places
from tests.checking import HUGE, out_of_range, random_picture
from tests.test_plans import random_regions
from tests.test_requests import LOWER, UPPER

SHAPES = SMALL + ((4, 2, 2, 1, 2), (5, 4, 3, 3, 2), (20, 18, 2, 1, 16))

# The codes of the two packets of the example.
UPPER_CODE = "00111"
LOWER_CODE = "010011"

THREE = [(UPPER, 0, UPPER_CODE), (LOWER, 0, LOWER_CODE), (UPPER, 0, "001")]


def example(blocks=10):
    """Return a link with the picture of point 58."""
    return Link(Picture(2, 2, 2, 1, [[0, 0, 1, 2]]), 2, blocks)


def three_letters(blocks=10):
    """Return such a link with three letters in its row."""
    link = example(blocks)
    link.send([], 100)
    link.send([], 3)
    return link


class Create(unittest.TestCase):
    def test_the_frame_and_the_picture(self):
        picture = Picture(3, 1, 2, 3, [[0, 1, 2], [1, 2, 3], [3, 3, 3]])
        for tile in (1, 2, 16):
            for blocks in (4, 5, 400):
                link = Link(picture, tile, blocks)
                self.assertTrue(link.frame.same(Frame(3, 1, 2, 3, tile)))
                self.assertTrue(link.shown().same(picture))
                self.assertEqual(link.letters(), [])
                self.assertTrue(link.state().same(Arrived(link.frame)))
                self.assertEqual(link.reopen(), 0)

    def test_wrong_sides_and_sizes(self):
        picture = blank(Frame(3, 1, 2, 3, 2))
        for tile in (0, 17, -1, HUGE, -HUGE):
            for blocks in (4, 3, 401):
                out_of_range(self, "tile", Link, picture, tile, blocks)
        for blocks in (3, 401, 0, -1, HUGE, -HUGE):
            out_of_range(self, "blocks", Link, picture, 16, blocks)


class Letters(unittest.TestCase):
    def test_send(self):
        link = example()
        self.assertEqual(link.send([], 100), 2)
        self.assertEqual(link.send([], 3), 1)
        self.assertEqual(link.letters(), THREE)
        self.assertEqual(link.send([], 0), 0)
        link.deliver(2)
        # The packet of the upper plane is known now.
        self.assertEqual(link.send([], 1000000), 1)
        self.assertEqual(link.letters(), THREE[:2] + [(LOWER, 0, LOWER_CODE)])

    def test_send_as_the_functions(self):
        chance = random.Random(73)
        for shape in SHAPES:
            frame = Frame(*shape)
            picture = random_picture(chance, frame)
            link = Link(picture, frame.tile, 400)
            before = []
            for _ in range(5):
                regions, count = random_regions(chance, 6), chance.choice((0, 1, 10, 200))
                pieces = answer(frame, picture, request(link.state(), regions), count)
                self.assertEqual(link.send(regions, count), len(pieces))
                before = before + pieces
                self.assertEqual(link.letters(), before)
                if before:
                    link.deliver(len(before) - 1)
                    before.pop()

    def test_send_with_each_error(self):
        link = example()
        for regions in ([(0, 0, 0, 1, 0)], [(0, 0, 1, 1, 17)], [(0, 0, 1, 1, 1)] * 17):
            out_of_range(self, "regions", link.send, regions, -1)
        for count in (-1, 1000001, HUGE, -HUGE):
            out_of_range(self, "count", link.send, [], count)
        self.assertEqual(link.letters(), [])

    def check(self, action, wanted):
        """Check what the letters are after an action, which returns None."""
        link = three_letters()
        self.assertIsNone(action(link))
        self.assertEqual(link.letters(), wanted)
        self.assertEqual(link.state().digit_count(), 0)

    def test_drop(self):
        self.check(lambda link: link.drop(0), THREE[1:])
        self.check(lambda link: link.drop(1), [THREE[0], THREE[2]])
        self.check(lambda link: link.drop(2), THREE[:2])

    def test_duplicate(self):
        for number in (0, 1, 2):
            self.check(lambda link: link.duplicate(number), THREE + [THREE[number]])

    def test_truncate(self):
        self.check(lambda link: link.truncate(0, 0), THREE[1:])
        self.check(lambda link: link.truncate(2, 0), THREE[:2])
        for count in (1, 2, 4):
            self.check(lambda link: link.truncate(0, count), [(UPPER, 0, UPPER_CODE[:count])] + THREE[1:])
        for count in (3, 4, 1000000):
            self.check(lambda link: link.truncate(2, count), THREE)

    def test_letters_that_there_are_not(self):
        for link, count in ((three_letters(), 3), (example(), 0)):
            for number in (-1, count, count + 1, -count - 1, HUGE, -HUGE):
                for call, more in ((link.drop, ()), (link.duplicate, ()), (link.deliver, ()), (link.truncate, (1,)),
                                   (link.truncate, (-1,))):
                    with self.assertRaises(NoLetter):
                        call(number, *more)
            self.assertEqual(link.letters(), THREE[:count])

    def test_wrong_counts(self):
        link = three_letters()
        for number in (0, 2):
            for count in (-1, 1000001, HUGE, -HUGE):
                out_of_range(self, "count", link.truncate, number, count)
        self.assertEqual(link.letters(), THREE)

    def test_the_returned_row_is_new(self):
        link = three_letters()
        link.letters().clear()
        row = link.letters()
        link.drop(0)
        self.assertEqual(row, THREE)
        self.assertEqual(link.letters(), THREE[1:])


class Deliver(unittest.TestCase):
    def test_the_keeper_receives_the_piece(self):
        link = three_letters()
        self.assertEqual(link.deliver(2), 3)
        self.assertEqual(link.letters(), THREE[:2])
        self.assertEqual(link.state().packets(), [(UPPER, "001")])
        self.assertEqual(link.deliver(0), 2)
        self.assertEqual(link.deliver(0), 6)
        self.assertEqual(link.letters(), [])
        self.assertEqual(link.state().packets(), [(UPPER, UPPER_CODE), (LOWER, LOWER_CODE)])
        self.assertEqual(link.value_range(0, 3), (2, 2, 2, 0, [2]))

    def test_twice(self):
        link = three_letters()
        link.duplicate(0)
        self.assertEqual(link.deliver(3), 5)
        self.assertEqual(link.deliver(0), 0)
        self.assertEqual(link.letters(), THREE[1:])

    def test_digits_ahead_are_missing(self):
        link = example()
        link.send([], 1)
        link.deliver(0)
        link.send([], 2)
        self.assertEqual(link.letters(), [(UPPER, 1, "01")])
        link.cut_power([])
        self.assertEqual(link.reopen(), 0)
        self.assertEqual(link.deliver(0), 0)
        self.assertEqual(link.letters(), [])
        self.assertEqual(link.state().packets(), [])

    def test_the_letter_is_removed_if_the_keeper_is_not_valid(self):
        link = three_letters()
        link.cut_power([])
        for left in (THREE[1:], THREE[2:], []):
            with self.assertRaises(NotKept):
                link.deliver(0)
            self.assertEqual(link.letters(), left)
        with self.assertRaises(NoLetter):
            link.deliver(0)

    def test_the_letter_is_removed_if_the_keeper_is_full(self):
        link = three_letters(4)
        self.assertEqual(link.deliver(0), 5)
        with self.assertRaises(KeeperFull):
            link.deliver(0)
        self.assertEqual(link.letters(), THREE[2:])
        self.assertEqual(link.state().packets(), [(UPPER, UPPER_CODE)])
        self.assertEqual(link.deliver(0), 0)

    def test_the_letter_is_removed_if_the_power_is_cut(self):
        link = three_letters()
        link.schedule_cut(1, [32])
        self.assertEqual(link.deliver(0), 5)
        with self.assertRaises(PowerCut):
            link.deliver(0)
        self.assertEqual(link.letters(), THREE[2:])
        self.assertEqual(link.state().packets(), [(UPPER, UPPER_CODE)])
        self.assertEqual(link.reopen(), 5)


class PowerAndKeeper(unittest.TestCase):
    def test_sync_and_compact(self):
        link = three_letters()
        link.deliver(2)
        self.assertIsNone(link.sync())
        link.deliver(0)
        self.assertEqual(link.compact(), 1)
        link.deliver(0)
        self.assertEqual(link.compact(), 2)
        link.cut_power([])
        for call in (link.sync, link.compact):
            with self.assertRaises(NotKept):
                call()
        self.assertEqual(link.reopen(), 11)
        for call in (link.sync, link.compact):
            link.schedule_cut(0, [])
            with self.assertRaises(PowerCut):
                call()
            self.assertEqual(link.reopen(), 11)

    def test_what_was_not_synced_is_lost(self):
        link = three_letters()
        link.deliver(2)
        link.sync()
        link.deliver(1)
        self.assertIsNone(link.cut_power([31]))
        # The old keeper still reports what it had.
        self.assertEqual(link.state().packets(), [(UPPER, "001"), (LOWER, LOWER_CODE)])
        self.assertEqual(link.value_range(0, 3), (2, 2, 2, 0, [2]))
        self.assertEqual(link.reopen(), 3)
        self.assertEqual(link.state().packets(), [(UPPER, "001")])
        self.assertEqual(link.value_range(0, 3), (2, 3, 2, 1, [2, 3]))

    def test_torn_lists(self):
        for torn, packets in (([32, 32], [(UPPER, UPPER_CODE), (LOWER, LOWER_CODE)]), ([32], [(UPPER, UPPER_CODE)]),
                              ([32, 31], [(UPPER, UPPER_CODE)]), ([31, 32], []), ([], [])):
            for scheduled in (True, False):
                link = three_letters()
                link.deliver(0)
                link.deliver(0)
                if scheduled:
                    self.assertIsNone(link.schedule_cut(0, torn))
                    with self.assertRaises(PowerCut):
                        link.sync()
                else:
                    link.cut_power(torn)
                self.assertEqual(link.reopen(), sum(len(digits) for _, digits in packets))
                self.assertEqual(link.state().packets(), packets)

    def test_reopen_without_a_cut(self):
        link = three_letters()
        link.deliver(0)
        link.deliver(0)
        self.assertEqual(link.reopen(), 11)
        # Opening flushes, so a cut takes nothing away.
        link.cut_power([])
        self.assertEqual(link.reopen(), 11)
        self.assertEqual(link.letters(), THREE[2:])

    def test_the_old_keeper_stays_if_opening_is_cut(self):
        link = three_letters()
        link.deliver(0)
        for count in range(3 + 1):
            link.schedule_cut(count, [32])
            with self.assertRaises(PowerCut):
                link.reopen()
            self.assertEqual(link.state().packets(), [(UPPER, UPPER_CODE)])
            self.assertEqual(link.value_range(0, 0), (0, 1, 0, 1, [0, 1]))
            with self.assertRaises(NotKept):
                link.sync()
            # It can still be asked what to send.
            self.assertEqual(link.send([], 2), 1)
            self.assertEqual(link.letters()[-1], (LOWER, 0, "01"))
        self.assertEqual(link.reopen(), 5)
        link.schedule_cut(3 + 1, [])
        self.assertEqual(link.reopen(), 5)

    def test_wrong_schedules_and_cuts(self):
        link = three_letters()
        for count in (-1, 100001, HUGE, -HUGE):
            out_of_range(self, "count", link.schedule_cut, count, [33])
        for torn in ([-1], [33], [0, HUGE]):
            out_of_range(self, "torn", link.schedule_cut, 0, torn)
            out_of_range(self, "torn", link.cut_power, torn)
        self.assertEqual(link.deliver(0), 5)
        link.sync()

    def test_value_range_and_state(self):
        link = three_letters()
        link.state().accept(UPPER, 0, UPPER_CODE)
        before = link.state()
        link.deliver(0)
        self.assertEqual(before.packets(), [])
        self.assertEqual(link.state().packets(), [(UPPER, UPPER_CODE)])
        for channel in (-1, 1, HUGE):
            out_of_range(self, "channel", link.value_range, channel, 4)
        for pixel in (-1, 4, HUGE):
            out_of_range(self, "pixel", link.value_range, 0, pixel)


class Point73(unittest.TestCase):
    def step(self, chance, link):
        """Do something with the link or a letter."""
        count = len(link.letters())
        number = chance.randrange(count) if count else 0
        torn = [chance.choice((0, 31, 32, chance.randrange(33))) for _ in range(chance.randrange(8))]
        what = chance.choice(("send", "deliver", "deliver", "deliver", "drop", "double", "shorten", "sync", "compact",
                              "schedule", "cut", "reopen"))
        if what in ("deliver", "drop", "double", "shorten") and count == 0:
            what = "send"
        if what == "shorten":
            link.truncate(number, chance.choice((0, 1, 2, 10)))
        else:
            steps = {
                "send": lambda: link.send(random_regions(chance, 6), chance.choice((1, 5, 30, 1000))),
                "deliver": lambda: link.deliver(chance.choice((0, number, count - 1))),
                "drop": lambda: link.drop(number), "double": lambda: link.duplicate(number), "sync": link.sync,
                "compact": link.compact, "schedule": lambda: link.schedule_cut(chance.randrange(12), torn),
                "cut": lambda: link.cut_power(torn), "reopen": link.reopen,
            }
            steps[what]()

    def try_step(self, chance, link):
        """Do something, and open a new keeper if the power was cut."""
        try:
            self.step(chance, link)
        except KeeperFull:
            pass
        except PowerCut:
            if chance.random() < 0.5:
                self.reopen(link)
        except NotKept:
            self.reopen(link)

    def reopen(self, link):
        """Open a new keeper, even if a cut was scheduled."""
        for _ in range(2):
            try:
                return link.reopen()
            except PowerCut:
                pass
        return self.fail("a cut removes the schedule")

    def check_ranges(self, shape, link):
        """Compare the ranges that the keeper reports with all pictures that agree."""
        pictures = agreeing(shape, link.state())
        for channel, pixel in places(link.frame):
            values = sorted({picture.value(channel, pixel) for picture in pictures})
            least, greatest = values[0], values[-1]
            shown = (least + greatest) // 2
            self.assertEqual(link.value_range(channel, pixel), (least, greatest, shown, greatest - shown, values))

    def test_whatever_happens(self):
        chance = random.Random(74)
        for shape in SHAPES:
            frame = Frame(*shape)
            for blocks in (4, 7, 30):
                picture = random_picture(chance, frame)
                link = Link(picture, frame.tile, blocks)
                for at in range(60):
                    self.try_step(chance, link)
                    self.assertTrue(agrees(link.state(), picture))
                    self.assertTrue(link.shown().same(picture))
                    if shape in SMALL and at % 10 == 9:
                        self.check_ranges(shape, link)

    def test_until_nothing_is_missing(self):
        chance = random.Random(75)
        for shape in SHAPES:
            frame = Frame(*shape)
            picture = random_picture(chance, frame)
            link = Link(picture, frame.tile, 400)
            while missing(link.state(), picture) > 0:
                link.send([], 1 + missing(link.state(), picture) // 3)
                while link.letters():
                    link.deliver(0)
                if chance.random() < 0.5:
                    link.sync()
                link.cut_power([chance.choice((0, 32, 32, 32, 32)) for _ in range(9)])
                self.reopen(link)
                link.sync()
            self.assertEqual(count_pictures(link.state()), 1)
            self.assertTrue(picture_at(link.state(), 0).same(picture))


if __name__ == "__main__":
    unittest.main()
