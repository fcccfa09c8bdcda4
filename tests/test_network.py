"""Points 61 and 62: the network."""

import random
import unittest

from packetpicture.arrived import Arrived
from packetpicture.errors import NoLetter
from packetpicture.frames import Frame
from packetpicture.network import ENDS_MOST, Network
from packetpicture.numbering import agrees, count_pictures, picture_at
from packetpicture.pictures import Picture, blank
from packetpicture.requests import answer, missing, request
from tests.agreeing import SMALL
from tests.checking import HUGE, out_of_range, random_picture
from tests.test_plans import random_regions
from tests.test_requests import LOWER, UPPER

SHAPES = SMALL + ((4, 2, 2, 1, 2), (5, 4, 3, 3, 2), (20, 18, 2, 1, 16))

# The codes of the two packets of the example.
UPPER_CODE = "00111"
LOWER_CODE = "010011"


def example(ends=2):
    """Return a network with the picture of point 58."""
    return Network(Picture(2, 2, 2, 1, [[0, 0, 1, 2]]), 2, ends)


def three_letters():
    """Return such a network with three letters in its row."""
    network = example()
    network.send(0, [], 100)
    network.send(1, [], 3)
    return network


THREE = [(0, UPPER, 0, UPPER_CODE), (0, LOWER, 0, LOWER_CODE), (1, UPPER, 0, "001")]


class Create(unittest.TestCase):
    def test_the_frame_and_the_picture(self):
        picture = Picture(3, 1, 2, 3, [[0, 1, 2], [1, 2, 3], [3, 3, 3]])
        for tile in (1, 2, 16):
            for ends in (1, 2, 3, 4):
                network = Network(picture, tile, ends)
                self.assertTrue(network.frame.same(Frame(3, 1, 2, 3, tile)))
                self.assertTrue(network.shown().same(picture))
                self.assertEqual(network.letters(), [])
                for end in range(ends):
                    self.assertTrue(network.state(end).same(Arrived(network.frame)))
                out_of_range(self, "end", network.state, ends)

    def test_wrong_sides_and_ends(self):
        picture = blank(Frame(3, 1, 2, 3, 2))
        self.assertEqual(ENDS_MOST, 4)
        for tile in (0, 17, -1, HUGE, -HUGE):
            for ends in (1, 0, 5):
                out_of_range(self, "tile", Network, picture, tile, ends)
        for ends in (0, 5, -1, HUGE, -HUGE):
            out_of_range(self, "ends", Network, picture, 16, ends)


class Send(unittest.TestCase):
    def test_letters_at_the_end_of_the_row(self):
        network = example()
        self.assertEqual(network.send(0, [], 100), 2)
        self.assertEqual(network.letters(), THREE[:2])
        self.assertEqual(network.send(1, [], 3), 1)
        self.assertEqual(network.letters(), THREE)
        self.assertEqual(network.send(1, [], 0), 0)
        self.assertEqual(network.letters(), THREE)

    def test_the_request_of_that_viewer(self):
        network = three_letters()
        network.deliver(2)
        self.assertEqual(network.send(1, [], 1000000), 1)
        # The packet of the upper plane is known already.
        self.assertEqual(network.letters()[2:], [(1, LOWER, 0, LOWER_CODE)])
        self.assertEqual(network.send(0, [], 7), 2)
        self.assertEqual(network.letters()[3:], [(0, UPPER, 0, UPPER_CODE), (0, LOWER, 0, "01")])

    def test_as_the_functions(self):
        chance = random.Random(61)
        for shape in SHAPES:
            frame = Frame(*shape)
            picture = random_picture(chance, frame)
            network = Network(picture, frame.tile, 3)
            before = []
            for _ in range(6):
                end, regions = chance.randrange(3), random_regions(chance, 6)
                count = chance.choice((0, 1, 10, 200))
                pieces = answer(frame, picture, request(network.state(end), regions), count)
                self.assertEqual(network.send(end, regions, count), len(pieces))
                before = before + [(end, *piece) for piece in pieces]
                self.assertEqual(network.letters(), before)
                if before:
                    network.deliver(len(before) - 1)
                    before.pop()

    def test_each_error(self):
        network = example()
        wrong = [(0, 0, 0, 1, 0)]
        for end in (-1, 2, HUGE, -HUGE):
            out_of_range(self, "end", network.send, end, wrong, -1)
        for regions in (wrong, [(0, 0, 1, 1, 17)], [(0, 0, 1, 1, 1)] * 17):
            out_of_range(self, "regions", network.send, 1, regions, -1)
        for count in (-1, 1000001, HUGE, -HUGE):
            out_of_range(self, "count", network.send, 1, [], count)
        self.assertEqual(network.letters(), [])

    def test_the_returned_row_is_new(self):
        network = three_letters()
        row = network.letters()
        row.clear()
        self.assertEqual(network.letters(), THREE)
        row = network.letters()
        network.drop(0)
        self.assertEqual(row, THREE)


class Letters(unittest.TestCase):
    def check(self, action, wanted):
        """Check what the letters are after an action, which returns None."""
        network = three_letters()
        self.assertIsNone(action(network))
        self.assertEqual(network.letters(), wanted)
        self.assertEqual([network.state(end).digit_count() for end in (0, 1)], [0, 0])

    def test_drop(self):
        self.check(lambda network: network.drop(0), THREE[1:])
        self.check(lambda network: network.drop(1), [THREE[0], THREE[2]])
        self.check(lambda network: network.drop(2), THREE[:2])

    def test_duplicate(self):
        for number in (0, 1, 2):
            self.check(lambda network: network.duplicate(number), THREE + [THREE[number]])

    def test_truncate(self):
        self.check(lambda network: network.truncate(0, 0), THREE[1:])
        self.check(lambda network: network.truncate(2, 0), THREE[:2])
        for count in (1, 2, 4):
            letter = (0, UPPER, 0, UPPER_CODE[:count])
            self.check(lambda network: network.truncate(0, count), [letter] + THREE[1:])
        self.check(lambda network: network.truncate(2, 2), THREE[:2] + [(1, UPPER, 0, "00")])
        for count in (3, 4, 5, 1000000):
            self.check(lambda network: network.truncate(2, count), THREE)

    def test_redirect(self):
        self.check(lambda network: network.redirect(0, 1), [(1, *THREE[0][1:])] + THREE[1:])
        self.check(lambda network: network.redirect(2, 0), THREE[:2] + [(0, *THREE[2][1:])])
        self.check(lambda network: network.redirect(1, 0), THREE)

    def test_a_start_that_is_not_0_stays(self):
        network = example(1)
        network.send(0, [], 1)
        network.deliver(0)
        network.send(0, [], 2)
        self.assertEqual(network.letters(), [(0, UPPER, 1, "01")])
        network.truncate(0, 1)
        network.duplicate(0)
        network.redirect(1, 0)
        self.assertEqual(network.letters(), [(0, UPPER, 1, "0")] * 2)

    def test_letters_that_there_are_not(self):
        for network, count in ((three_letters(), 3), (example(), 0)):
            for number in (-1, count, count + 1, -count - 1, HUGE, -HUGE):
                for call, more in (
                    (network.drop, ()), (network.duplicate, ()), (network.deliver, ()), (network.truncate, (1,)),
                    (network.truncate, (-1,)), (network.redirect, (1,)), (network.redirect, (9,)),
                ):
                    with self.assertRaises(NoLetter):
                        call(number, *more)
            self.assertEqual(network.letters(), THREE[:count])

    def test_wrong_counts_and_ends(self):
        network = three_letters()
        for number in (0, 2):
            for count in (-1, 1000001, HUGE, -HUGE):
                out_of_range(self, "count", network.truncate, number, count)
            for end in (-1, 2, HUGE, -HUGE):
                out_of_range(self, "end", network.redirect, number, end)
        self.assertEqual(network.letters(), THREE)


class Deliver(unittest.TestCase):
    def test_the_viewer_receives_the_piece(self):
        network = three_letters()
        self.assertEqual(network.deliver(2), 3)
        self.assertEqual(network.letters(), THREE[:2])
        self.assertEqual(network.state(0).packets(), [])
        self.assertEqual(network.state(1).packets(), [(UPPER, "001")])
        self.assertEqual(network.deliver(0), 5)
        self.assertEqual(network.letters(), THREE[1:2])
        self.assertEqual(network.deliver(0), 6)
        self.assertEqual(network.letters(), [])
        self.assertEqual(network.state(0).packets(), [(UPPER, UPPER_CODE), (LOWER, LOWER_CODE)])

    def test_twice(self):
        network = three_letters()
        network.duplicate(0)
        self.assertEqual(network.deliver(3), 5)
        self.assertEqual(network.deliver(0), 0)
        self.assertEqual(network.letters(), THREE[1:])

    def test_the_other_viewer(self):
        network = three_letters()
        network.redirect(0, 1)
        self.assertEqual(network.deliver(2), 3)
        self.assertEqual(network.deliver(0), 2)
        self.assertEqual(network.state(1).packets(), [(UPPER, UPPER_CODE)])
        self.assertEqual(network.state(0).packets(), [])

    def test_digits_ahead_are_missing(self):
        network = example()
        network.send(0, [], 1)
        network.deliver(0)
        network.send(0, [], 1)
        network.redirect(0, 1)
        self.assertEqual(network.letters(), [(1, UPPER, 1, "0")])
        self.assertEqual(network.deliver(0), 0)
        self.assertEqual(network.letters(), [])
        self.assertEqual(network.state(1).packets(), [])
        self.assertEqual(network.state(0).packets(), [(UPPER, "0")])

    def test_states_are_new(self):
        network = three_letters()
        before = network.state(0)
        network.deliver(0)
        self.assertEqual(before.packets(), [])
        network.state(0).accept(LOWER, 0, "1")
        self.assertEqual(network.state(0).packets(), [(UPPER, UPPER_CODE)])

    def test_missing(self):
        network = three_letters()
        self.assertEqual([network.missing(end) for end in (0, 1)], [11, 11])
        network.deliver(2)
        self.assertEqual([network.missing(end) for end in (0, 1)], [11, 6])
        network.deliver(0)
        network.deliver(0)
        self.assertEqual([network.missing(end) for end in (0, 1)], [0, 6])
        for end in (-1, 2, HUGE, -HUGE):
            out_of_range(self, "end", network.missing, end)
            out_of_range(self, "end", network.state, end)


class Point62(unittest.TestCase):
    def step(self, chance, network, ends):
        """Do something with the network or a letter."""
        count = len(network.letters())
        number = chance.randrange(count) if count else 0
        what = chance.choice(("send", "deliver", "deliver", "deliver", "drop", "double", "cut", "turn"))
        if what == "send" or count == 0:
            network.send(chance.randrange(ends), random_regions(chance, 6), chance.choice((1, 5, 30, 1000)))
        elif what == "deliver":
            network.deliver(chance.choice((0, number, count - 1)))
        elif what == "drop":
            network.drop(number)
        elif what == "double":
            network.duplicate(number)
        elif what == "cut":
            network.truncate(number, chance.choice((0, 1, 2, 10)))
        else:
            network.redirect(number, chance.randrange(ends))

    def check(self, network, picture, before, end):
        """Check that the picture agrees, and that digits that had arrived are still there."""
        state = network.state(end)
        self.assertTrue(agrees(state, picture))
        for key, digits in before.packets():
            self.assertTrue(state.digits(key).startswith(digits))
        self.assertEqual(network.missing(end), missing(state, picture))
        return state

    def test_whatever_happens(self):
        chance = random.Random(62)
        for shape in SHAPES:
            frame = Frame(*shape)
            ends = chance.randrange(1, 5)
            picture = random_picture(chance, frame)
            network = Network(picture, frame.tile, ends)
            states = [network.state(end) for end in range(ends)]
            for _ in range(60):
                self.step(chance, network, ends)
                states = [self.check(network, picture, states[end], end) for end in range(ends)]
                self.assertTrue(network.shown().same(picture))

    def test_until_nothing_is_missing(self):
        chance = random.Random(63)
        for shape in SHAPES:
            frame = Frame(*shape)
            picture = random_picture(chance, frame)
            network = Network(picture, frame.tile, 2)
            while network.missing(0) + network.missing(1) > 0:
                for end in (0, 1):
                    network.send(end, [], 1 + network.missing(end) // 3)
                for _ in range(chance.randrange(6)):
                    self.step(chance, network, 2)
                while network.letters():
                    network.deliver(0)
            for end in (0, 1):
                self.assertEqual(count_pictures(network.state(end)), 1)
                self.assertTrue(picture_at(network.state(end), 0).same(picture))


if __name__ == "__main__":
    unittest.main()
