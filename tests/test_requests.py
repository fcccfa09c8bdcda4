"""Points 54 to 56: requests, answers and missing digits."""

import random
import unittest

from packetpicture.arrived import Arrived
from packetpicture.counting import count_possible
from packetpicture.errors import OtherKind, PacketTwice
from packetpicture.frames import Frame, all_keys, tile_size
from packetpicture.numbering import count_pictures
from packetpicture.packets import all_packets, packet_code
from packetpicture.pictures import Picture, blank
from packetpicture.plans import plan
from packetpicture.requests import answer, check_requests, is_open, missing, request
from tests.agreeing import SMALL, all_whole, partly_arrived, point_34, states
from tests.checking import HUGE, out_of_range, random_picture
from tests.test_plans import random_regions

SHAPES = SMALL + ((4, 2, 2, 1, 2), (5, 4, 3, 3, 2), (20, 18, 3, 1, 16), (9, 7, 8, 3, 4))

UPPER = (0, 0, 1)
LOWER = (0, 0, 0)


def point_58():
    """Return (frame, picture, request) of the example of point 58."""
    frame = Frame(2, 2, 2, 1, 2)
    return frame, Picture(2, 2, 2, 1, [[0, 0, 1, 2]]), [(UPPER, 2), (LOWER, 3)]


def known_bits_differ(arrived, key):
    """Return True if more than one choice of bits is possible for a packet."""
    width, height = tile_size(arrived.frame, key[1])
    return count_possible(width, width * height, arrived.digits(key)) > 1


def wrong_keys(frame):
    """Return tuples (name, key) for keys that the frame does not have."""
    found = []
    for name, at, count in (("channel", 0, frame.channels), ("tile", 1, frame.tiles()), ("plane", 2, frame.depth)):
        for wrong in (-1, count, HUGE, -HUGE):
            key = [0, 0, 0]
            key[at] = wrong
            # A wrong part that is checked earlier comes first.
            found += [(name, tuple(key)), (name, tuple(key[:at + 1] + [wrong] * (2 - at)))]
    return found


class Open(unittest.TestCase):
    def test_nothing_arrived(self):
        for shape in SHAPES:
            arrived = Arrived(Frame(*shape))
            for key in all_keys(arrived.frame):
                self.assertIs(is_open(arrived, key), True)

    def test_everything_arrived(self):
        chance = random.Random(54)
        for shape in SHAPES:
            frame = Frame(*shape)
            arrived = all_whole(frame, all_packets(frame, random_picture(chance, frame)))
            for key in all_keys(frame):
                self.assertIs(is_open(arrived, key), False)

    def test_known_before_all_digits_have_arrived(self):
        arrived = point_34()
        self.assertIs(is_open(arrived, UPPER), True)
        arrived.accept(UPPER, 2, "1")
        # The code is 00111, and no other one starts with 001.
        self.assertIs(is_open(arrived, UPPER), False)
        self.assertIs(is_open(arrived, LOWER), True)
        self.assertEqual(request(arrived, []), [(LOWER, 3)])

    def test_against_the_number_of_possible_bits(self):
        chance = random.Random(55)
        for shape in SHAPES:
            frame = Frame(*shape)
            packets = all_packets(frame, random_picture(chance, frame))
            arrived = partly_arrived(chance, frame, packets)
            for key in all_keys(frame):
                self.assertIs(is_open(arrived, key), known_bits_differ(arrived, key))

    def test_wrong_keys(self):
        for frame in (Frame(2, 2, 2, 1, 2), Frame(5, 4, 3, 3, 2)):
            for name, key in wrong_keys(frame):
                out_of_range(self, name, is_open, Arrived(frame), key)


class Requests(unittest.TestCase):
    def test_the_example_of_point_58(self):
        self.assertEqual(request(point_34(), []), [(UPPER, 2), (LOWER, 3)])

    def test_the_order_of_the_plan(self):
        arrived = Arrived(Frame(4, 2, 2, 1, 2))
        arrived.accept((0, 0, 1), 0, "00")
        keys = [((0, 0, 1), 2), ((0, 1, 1), 0), ((0, 0, 0), 0), ((0, 1, 0), 0)]
        self.assertEqual(request(arrived, []), keys)
        regions = [(2, 0, 1, 1, 1)]
        self.assertEqual(request(arrived, regions), [keys[1], keys[0], keys[3], keys[2]])
        self.assertEqual(request(arrived, [(3, 1, 9, 9, 2)]), [keys[1], keys[3], keys[0], keys[2]])
        arrived.accept((0, 0, 1), 2, "1")
        self.assertEqual(request(arrived, regions), [keys[1], keys[3], keys[2]])

    def test_against_the_words(self):
        chance = random.Random(56)
        for shape in SHAPES:
            frame = Frame(*shape)
            packets = all_packets(frame, random_picture(chance, frame))
            for regions in ([], random_regions(chance, 9), random_regions(chance, 9)):
                arrived = partly_arrived(chance, frame, packets)
                kept = arrived.duplicate()
                wanted = [(key, len(arrived.digits(key))) for key in plan(frame, regions)
                          if known_bits_differ(arrived, key)]
                found = request(arrived, regions)
                self.assertEqual(found, wanted)
                self.assertIsNone(check_requests(frame, found))
                found.clear()
                self.assertEqual(request(arrived, regions), wanted)
                self.assertTrue(arrived.same(kept))

    def test_empty_exactly_if_one_picture_agrees(self):
        chance = random.Random(57)
        for shape in SMALL:
            for picture, arrived in states(chance, shape, 8):
                self.assertEqual(request(arrived, []) == [], count_pictures(arrived) == 1)
                for key, start in request(arrived, []):
                    arrived.accept(key, start, packet_code(arrived.frame, picture, key)[start:])
                self.assertEqual(request(arrived, []), [])
                self.assertEqual(count_pictures(arrived), 1)

    def test_wrong_regions(self):
        for regions in ([(0, 0, 0, 1, 0)], [(0, 0, 1, 1, 17)], [(0, 64, 1, 1, 1)], [(0, 0, 1, 1, 1)] * 17):
            out_of_range(self, "regions", request, point_34(), regions)


class Checks(unittest.TestCase):
    def test_right_ones(self):
        frame = Frame(5, 4, 3, 3, 2)
        keys = all_keys(frame)
        for rows in ([], [(keys[0], 0)], [(key, 65535) for key in keys], [(key, 1) for key in keys[::-1]]):
            kept = list(rows)
            self.assertIsNone(check_requests(frame, rows))
            self.assertEqual(rows, kept)

    def test_wrong_keys(self):
        frame = Frame(5, 4, 3, 3, 2)
        for name, key in wrong_keys(frame):
            for start in (0, -1, HUGE):
                out_of_range(self, name, check_requests, frame, [(key, start)])
                out_of_range(self, name, check_requests, frame, [(LOWER, 0), (key, start), (key, start)])

    def test_wrong_starts(self):
        frame = Frame(2, 2, 2, 1, 2)
        for start in (-1, 65536, HUGE, -HUGE):
            out_of_range(self, "start", check_requests, frame, [(UPPER, start)])
            out_of_range(self, "start", check_requests, frame, [(LOWER, 0), (UPPER, start)])
        for start in (0, 1, 65534, 65535):
            self.assertIsNone(check_requests(frame, [(LOWER, 0), (UPPER, start)]))

    def test_a_key_twice(self):
        frame = Frame(2, 2, 2, 1, 2)
        for rows in ([(UPPER, 0), (UPPER, 0)], [(UPPER, 0), (LOWER, 0), (UPPER, 3)], [(LOWER, 65535)] * 3):
            with self.assertRaises(PacketTwice):
                check_requests(frame, rows)

    def test_the_first_error_of_an_entry(self):
        frame = Frame(2, 2, 2, 1, 2)
        for start in (-1, 65536):
            # The key is there twice, but the start is checked before that.
            out_of_range(self, "start", check_requests, frame, [(UPPER, 0), (UPPER, start)])

    def test_the_first_entry_with_an_error(self):
        frame = Frame(2, 2, 2, 1, 2)
        out_of_range(self, "start", check_requests, frame, [(UPPER, -1), ((1, 0, 0), 0)])
        out_of_range(self, "plane", check_requests, frame, [((0, 0, 2), 0), ((1, 0, 0), 0), (UPPER, -1)])
        with self.assertRaises(PacketTwice):
            check_requests(frame, [(UPPER, 0), (UPPER, 0), (LOWER, -1), ((0, 1, 0), 0)])


class Answers(unittest.TestCase):
    def test_the_example_of_point_58(self):
        pieces = [(UPPER, 2, "111"), (LOWER, 3, "0")]
        self.assertEqual(answer(*point_58(), 4), pieces)

    def test_each_number_of_digits(self):
        # The codes are 00111 and 010011, of which 3 and 3 digits are missing.
        frame, picture, rows = point_58()
        self.assertEqual([packet_code(frame, picture, key) for key in (UPPER, LOWER)], ["00111", "010011"])
        for count, wanted in (
            (0, []), (1, [(UPPER, 2, "1")]), (2, [(UPPER, 2, "11")]), (3, [(UPPER, 2, "111")]),
            (4, [(UPPER, 2, "111"), (LOWER, 3, "0")]), (5, [(UPPER, 2, "111"), (LOWER, 3, "01")]),
            (6, [(UPPER, 2, "111"), (LOWER, 3, "011")]), (7, [(UPPER, 2, "111"), (LOWER, 3, "011")]),
            (1000000, [(UPPER, 2, "111"), (LOWER, 3, "011")]),
        ):
            self.assertEqual(answer(frame, picture, rows, count), wanted)
        self.assertEqual(rows, point_58()[2])

    def test_starts_at_the_end_and_beyond(self):
        frame, picture, _ = point_58()
        for start in (5, 6, 65535):
            self.assertEqual(answer(frame, picture, [(UPPER, start)], 9), [])
            # An entry without digits does not end the answer.
            rows = [(UPPER, start), (LOWER, 4)]
            self.assertEqual(answer(frame, picture, rows, 1), [(LOWER, 4, "1")])
            self.assertEqual(answer(frame, picture, rows, 2), [(LOWER, 4, "11")])
        self.assertEqual(answer(frame, picture, [(UPPER, 4)], 9), [(UPPER, 4, "1")])

    def test_the_answer_ends_where_a_piece_does_not_fit(self):
        frame, picture, _ = point_58()
        self.assertEqual(answer(frame, picture, [(UPPER, 0), (LOWER, 4)], 4), [(UPPER, 0, "0011")])
        self.assertEqual(answer(frame, picture, [(UPPER, 0), (LOWER, 4)], 5), [(UPPER, 0, "00111")])
        self.assertEqual(answer(frame, picture, [(UPPER, 0), (LOWER, 4)], 0), [])

    def test_the_order_is_that_of_the_request(self):
        frame, picture, _ = point_58()
        self.assertEqual(answer(frame, picture, [(LOWER, 3), (UPPER, 4)], 9), [(LOWER, 3, "011"), (UPPER, 4, "1")])
        self.assertEqual(answer(frame, picture, [], 9), [])

    def words(self, codes, rows, count):
        """Return the answer of point 55, from the codes."""
        pieces, left = [], count
        for key, start in rows:
            rest = codes[key][start:]
            if len(rest) > left:
                pieces.append((key, start, rest[:left]))
                break
            pieces.append((key, start, rest))
            left -= len(rest)
        return [piece for piece in pieces if piece[2]]

    def test_against_the_words(self):
        chance = random.Random(58)
        for shape in SHAPES:
            frame = Frame(*shape)
            picture = random_picture(chance, frame)
            codes = dict(all_packets(frame, picture))
            keys = chance.sample(all_keys(frame), chance.randrange(1, frame.packets() + 1))
            rows = [(key, chance.randrange(len(codes[key]) + 3)) for key in keys]
            whole = sum(len(codes[key][start:]) for key, start in rows)
            for count in {0, 1, whole // 2, max(0, whole - 1), whole, whole + 1, chance.randrange(whole + 2)}:
                self.assertEqual(answer(frame, picture, rows, count), self.words(codes, rows, count))

    def test_the_number_of_digits_is_checked_last(self):
        frame, picture, rows = point_58()
        for count in (-1, 1000001, HUGE, -HUGE):
            out_of_range(self, "count", answer, frame, picture, rows, count)
            out_of_range(self, "count", answer, frame, picture, [], count)
            out_of_range(self, "start", answer, frame, picture, [(UPPER, -1)], count)
            with self.assertRaises(PacketTwice):
                answer(frame, picture, rows + rows[:1], count)
            with self.assertRaises(OtherKind):
                answer(frame, blank(Frame(2, 1, 2, 1, 2)), rows, count)

    def test_a_wrong_request_is_refused_even_if_no_digit_is_wanted(self):
        frame, picture, rows = point_58()
        for name, key in wrong_keys(frame):
            out_of_range(self, name, answer, frame, picture, rows + [(key, 0)], 0)
            with self.assertRaises(OtherKind):
                answer(frame, blank(Frame(2, 2, 1, 1, 2)), [(key, 0)], 0)


class Missing(unittest.TestCase):
    def test_the_example(self):
        _, picture, _ = point_58()
        arrived = point_34()
        self.assertEqual(missing(arrived, picture), 6)
        arrived.accept(UPPER, 2, "1")
        # The packet is known, so its other two digits are not missing any more.
        self.assertEqual(missing(arrived, picture), 3)
        arrived.accept(LOWER, 3, "0")
        self.assertEqual(missing(arrived, picture), 2)
        arrived.accept(LOWER, 4, "1")
        self.assertEqual(missing(arrived, picture), 0)

    def test_against_the_words(self):
        chance = random.Random(59)
        for shape in SHAPES:
            frame = Frame(*shape)
            picture = random_picture(chance, frame)
            packets = all_packets(frame, picture)
            arrived = partly_arrived(chance, frame, packets)
            wanted = sum(len(code) - len(arrived.digits(key)) for key, code in packets
                         if known_bits_differ(arrived, key))
            self.assertEqual(missing(arrived, picture), wanted)
            self.assertEqual(missing(all_whole(frame, packets), picture), 0)
            self.assertEqual(missing(Arrived(frame), picture), sum(len(code) for _, code in packets))

    def test_an_answer_lessens_them_by_its_digits(self):
        chance = random.Random(60)
        for shape in SHAPES:
            frame = Frame(*shape)
            picture = random_picture(chance, frame)
            packets = all_packets(frame, picture)
            for _ in range(4):
                arrived = partly_arrived(chance, frame, packets)
                before = missing(arrived, picture)
                count = chance.choice((0, 1, 2, before, max(before - 1, 0), before + 1, chance.randrange(before + 1)))
                for piece in answer(frame, picture, request(arrived, random_regions(chance, 9)), count):
                    arrived.accept(*piece)
                self.assertLessEqual(missing(arrived, picture), max(before - count, 0))

    def test_rounds_until_the_request_is_empty(self):
        chance = random.Random(61)
        for shape in SHAPES:
            frame = Frame(*shape)
            picture = random_picture(chance, frame)
            arrived = Arrived(frame)
            step = 1 + missing(arrived, picture) // 20
            rounds = 0
            while request(arrived, []):
                for piece in answer(frame, picture, request(arrived, []), step):
                    self.assertEqual(arrived.accept(*piece), len(piece[2]))
                rounds += 1
            self.assertLessEqual(rounds, 20)
            self.assertEqual(count_pictures(arrived), 1)


if __name__ == "__main__":
    unittest.main()
