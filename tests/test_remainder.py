"""Points 57 and 58: everything that is missing as a single number."""

import random
import unittest

from packetpicture.arrived import Arrived
from packetpicture.errors import OtherKind, PacketTwice
from packetpicture.frames import Frame, all_keys
from packetpicture.numbering import count_pictures, number_of
from packetpicture.packets import all_packets
from packetpicture.pictures import Picture, blank
from packetpicture.remainder import bits_needed, finish, remainder, remainder_length
from packetpicture.requests import request
from tests.agreeing import SMALL, agreeing, all_whole, partly_arrived, point_34, states
from tests.checking import HUGE, out_of_range, random_picture
from tests.test_plans import random_regions
from tests.test_requests import LOWER, UPPER, point_58, wrong_keys

LARGE = ((20, 18, 3, 1, 16), (9, 7, 8, 3, 4), (6, 5, 4, 3, 1))


class BitsNeeded(unittest.TestCase):
    def test_small_numbers(self):
        found = [bits_needed(number) for number in range(1, 18)]
        self.assertEqual(found, [0, 1, 2, 2, 3, 3, 3, 3, 4, 4, 4, 4, 4, 4, 4, 4, 5])

    def test_powers_of_2_and_one_more(self):
        for k in (1, 2, 3, 10, 63, 64, 100, 25000):
            self.assertEqual(bits_needed(2 ** k - 1), k if k > 1 else 0)
            self.assertEqual(bits_needed(2 ** k), k)
            self.assertEqual(bits_needed(2 ** k + 1), k + 1)


class Example(unittest.TestCase):
    def test_point_58(self):
        frame, picture, rows = point_58()
        arrived = point_34()
        self.assertEqual(remainder_length(arrived), 3)
        self.assertEqual(remainder(frame, picture, rows), "100")
        self.assertTrue(finish(arrived, "100").same(picture))

    def test_one_more_digit(self):
        frame, picture, _ = point_58()
        arrived = point_34()
        arrived.accept(UPPER, 2, "1")
        self.assertEqual(remainder_length(arrived), 2)
        # Of the three bits 0010, 0011 and 0100 of the lower plane the picture has the first.
        self.assertEqual(remainder(frame, picture, [(LOWER, 3)]), "01")
        self.assertTrue(finish(arrived, "01").same(picture))

    def test_wrong_numbers_of_digits(self):
        arrived = point_34()
        for digits in ("", "0", "00", "10", "0000", "0100", "1000", "1" * 1000):
            self.assertIsNone(finish(arrived, digits))

    def test_numbers_that_are_too_large(self):
        arrived = point_34()
        for digits in ("110", "111"):
            self.assertIsNone(finish(arrived, digits))
        for digits in ("000", "001", "010", "011", "100", "101"):
            self.assertEqual(number_of(arrived, finish(arrived, digits)), int(digits, 2))
        self.assertTrue(arrived.same(point_34()))


class RoundTrips(unittest.TestCase):
    def check(self, arrived, picture, rows):
        """Check the remainder for a picture that agrees, and the way back."""
        digits = remainder(arrived.frame, picture, rows)
        count = count_pictures(arrived)
        length = len(digits)
        self.assertEqual(length, remainder_length(arrived))
        self.assertTrue(count <= 2 ** length and (length == 0 or count > 2 ** (length - 1)))
        self.assertEqual(int("0" + digits, 2), number_of(arrived, picture))
        self.assertTrue(finish(arrived, digits).same(picture))

    def test_all_pictures_that_agree(self):
        chance = random.Random(57)
        for shape in SMALL:
            for _, arrived in states(chance, shape, 3):
                pictures = agreeing(shape, arrived)
                rows = request(arrived, random_regions(chance, 3))
                kept = list(rows)
                for picture in chance.sample(pictures, min(len(pictures), 150)):
                    self.check(arrived, picture, rows)
                self.assertEqual(rows, kept)

    def test_large_frames(self):
        chance = random.Random(58)
        for shape in LARGE:
            frame = Frame(*shape)
            picture = random_picture(chance, frame)
            packets = all_packets(frame, picture)
            for arrived in (Arrived(frame), partly_arrived(chance, frame, packets), all_whole(frame, packets)):
                self.check(arrived, picture, request(arrived, []))

    def test_nothing_is_missing(self):
        chance = random.Random(59)
        for shape in SMALL + LARGE:
            frame = Frame(*shape)
            picture = random_picture(chance, frame)
            arrived = all_whole(frame, all_packets(frame, picture))
            self.assertEqual(remainder_length(arrived), 0)
            self.assertEqual(remainder(frame, picture, []), "")
            self.assertTrue(finish(arrived, "").same(picture))
            for digits in ("0", "1", "00"):
                self.assertIsNone(finish(arrived, digits))

    def test_the_order_of_the_request_does_not_matter(self):
        chance = random.Random(60)
        for shape in SMALL:
            for picture, arrived in states(chance, shape, 3):
                rows = request(arrived, [])
                wanted = remainder(arrived.frame, picture, rows)
                self.assertEqual(remainder(arrived.frame, picture, rows[::-1]), wanted)


class OtherRequests(unittest.TestCase):
    def state(self, frame, codes, rows):
        """Return what has arrived according to a request."""
        starts = dict(rows)
        return all_whole(frame, [(key, codes[key][:starts.get(key, len(codes[key]))]) for key in codes])

    def test_any_requests(self):
        chance = random.Random(61)
        for shape in SMALL + LARGE:
            frame = Frame(*shape)
            for _ in range(4):
                picture = random_picture(chance, frame)
                codes = dict(all_packets(frame, picture))
                keys = chance.sample(all_keys(frame), chance.randrange(frame.packets() + 1))
                rows = [(key, chance.choice((0, chance.randrange(len(codes[key]) + 3), 65535))) for key in keys]
                arrived = self.state(frame, codes, rows)
                digits = remainder(frame, picture, rows)
                self.assertEqual(len(digits), remainder_length(arrived))
                self.assertTrue(finish(arrived, digits).same(picture))

    def test_starts_at_the_end_of_a_packet_and_beyond(self):
        frame, picture, _ = point_58()
        for start in (5, 6, 65535):
            self.assertEqual(remainder(frame, picture, [(UPPER, start)]), "")
            self.assertEqual(remainder(frame, picture, [(UPPER, start), (LOWER, 3)]), "01")

    def test_packets_that_are_not_named(self):
        frame, picture, rows = point_58()
        self.assertEqual(remainder(frame, picture, []), "")
        # With two digits there are two possible bits of the upper plane.
        self.assertEqual(remainder(frame, picture, rows[:1]), "1")
        self.assertEqual(remainder(frame, picture, [(UPPER, 0)]), "0001")

    def test_wrong_requests(self):
        frame, picture, rows = point_58()
        for name, key in wrong_keys(frame):
            out_of_range(self, name, remainder, frame, picture, rows + [(key, -1)])
        for start in (-1, 65536, HUGE, -HUGE):
            out_of_range(self, "start", remainder, frame, picture, [(UPPER, start)])
        with self.assertRaises(PacketTwice):
            remainder(frame, picture, rows + rows)

    def test_pictures_that_do_not_fit(self):
        frame, _, rows = point_58()
        for numbers in ((1, 2, 2, 1), (2, 3, 2, 1), (2, 2, 3, 1), (2, 2, 2, 3)):
            for wrong in ([], rows, rows + rows, [((9, 9, 9), -1)]):
                with self.assertRaises(OtherKind):
                    remainder(frame, blank(Frame(*numbers, 2)), wrong)


class LargestFrame(unittest.TestCase):
    def test_thousands_of_digits(self):
        chance = random.Random(62)
        frame = Frame(64, 48, 8, 1, 16)
        picture = random_picture(chance, frame)
        arrived = Arrived(frame)
        digits = remainder(frame, picture, request(arrived, []))
        self.assertEqual(len(digits), 64 * 48 * 8)
        self.assertTrue(finish(arrived, digits).same(picture))
        rows = [[255] * 3072]
        self.assertTrue(finish(arrived, remainder(frame, Picture(64, 48, 8, 1, rows), request(arrived, [])))
                        .same(Picture(64, 48, 8, 1, rows)))


if __name__ == "__main__":
    unittest.main()
