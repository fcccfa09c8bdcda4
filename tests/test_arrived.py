"""Points 28 and 29: what has arrived."""

import itertools
import random
import unittest

from packetpicture.arrived import DIGITS_MOST, START_MOST, Arrived, known_text
from packetpicture.coder import encode, known
from packetpicture.errors import BitsAhead, Contradiction, NoSuchPacket
from packetpicture.frames import Frame, all_keys, tile_size
from packetpicture.packets import all_packets
from tests import brute
from tests.agreeing import point_34
from tests.checking import HUGE, out_of_range, random_picture

KEY = (0, 0, 1)
OTHER = (0, 0, 0)


def small():
    """Return an object for a frame with two planes of one tile of four pixels."""
    return Arrived(Frame(2, 2, 2, 1, 2))


def with_digits(digits):
    """Return such an object for which these digits of KEY have arrived."""
    arrived = small()
    arrived.accept(KEY, 0, digits)
    return arrived


class Accept(unittest.TestCase):
    def check(self, arrived, start, bits, added, digits):
        """Check what accepting a piece of KEY returns, and what has arrived then."""
        self.assertEqual(arrived.accept(KEY, start, bits), added)
        self.assertEqual(arrived.digits(KEY), digits)
        self.assertEqual(arrived.digits(OTHER), "")
        self.assertEqual(arrived.digit_count(), len(digits))
        self.assertEqual(arrived.packets(), [(KEY, digits)] if digits else [])

    def test_nothing_at_first(self):
        arrived = small()
        self.assertEqual(arrived.packets(), [])
        self.assertEqual(arrived.digit_count(), 0)
        self.assertEqual([arrived.digits(key) for key in (KEY, OTHER)], ["", ""])
        self.assertEqual((START_MOST, DIGITS_MOST), (65535, 65535))

    def test_the_frame(self):
        frame = Frame(2, 2, 2, 1, 2)
        self.assertTrue(Arrived(frame).frame.same(frame))

    def test_all_new(self):
        self.check(small(), 0, "00111", 5, "00111")
        self.check(with_digits("0"), 1, "01", 2, "001")

    def test_partly_new(self):
        self.check(with_digits("00"), 0, "001", 1, "001")
        self.check(with_digits("00"), 1, "0111", 3, "00111")

    def test_all_old(self):
        self.check(with_digits("00111"), 0, "00111", 0, "00111")
        self.check(with_digits("00111"), 0, "00", 0, "00111")
        self.check(with_digits("00111"), 2, "11", 0, "00111")
        self.check(with_digits("00111"), 4, "1", 0, "00111")

    def test_none(self):
        self.check(small(), 0, "", 0, "")
        for start in range(6):
            self.check(with_digits("00111"), start, "", 0, "00111")

    def test_the_end_and_one_behind(self):
        self.check(with_digits("001"), 3, "11", 2, "00111")
        arrived = with_digits("001")
        for bits in ("", "1", "11"):
            with self.assertRaises(BitsAhead):
                arrived.accept(KEY, 4, bits)
        with self.assertRaises(BitsAhead):
            small().accept(KEY, 1, "")
        self.check(arrived, 0, "", 0, "001")

    def test_digits_of_no_packet(self):
        for digits, bits in (("", "0000"), ("000", "0"), ("000", "1"), ("00111", "0"), ("0", "000")):
            arrived = with_digits(digits)
            with self.assertRaises(NoSuchPacket):
                arrived.accept(KEY, len(digits), bits)
            self.check(arrived, 0, "", 0, digits)

    def test_against_all_rows_of_bits(self):
        for digits in brute.strings(6):
            arrived = small()
            if brute.possible(2, 4, digits):
                self.check(arrived, 0, digits, len(digits), digits)
            else:
                with self.assertRaises(NoSuchPacket):
                    arrived.accept(KEY, 0, digits)
                self.check(arrived, 0, "", 0, "")

    def test_what_lies_inside_never_raises_no_such_packet(self):
        for bits in brute.all_bits(4):
            code = brute.code(2, bits)
            arrived = with_digits(code)
            for start in range(len(code) + 1):
                for end in range(start, len(code) + 1):
                    self.check(arrived, start, code[start:end], 0, code)

    def test_a_whole_code_takes_no_more(self):
        for bits in brute.all_bits(4):
            code = brute.code(2, bits)
            for more in ("0", "1"):
                with self.assertRaises(NoSuchPacket):
                    with_digits(code).accept(KEY, 0, code + more)


class Errors(unittest.TestCase):
    def setUp(self):
        self.arrived = with_digits("010")

    def tearDown(self):
        self.assertEqual(self.arrived.packets(), [(KEY, "010")])
        self.assertEqual(known_text(self.arrived, KEY), known(2, 4, "010"))

    def test_the_key_comes_first(self):
        long = "1" * (DIGITS_MOST + 1)
        for wrong in (-1, 1, HUGE, -HUGE):
            out_of_range(self, "channel", self.arrived.accept, (wrong, -1, 2), -1, long)
            out_of_range(self, "tile", self.arrived.accept, (0, wrong, 2), -1, long)
        for wrong in (-1, 2, HUGE, -HUGE):
            out_of_range(self, "plane", self.arrived.accept, (0, 0, wrong), -1, long)

    def test_then_the_start(self):
        for wrong in (-1, START_MOST + 1, HUGE, -HUGE):
            out_of_range(self, "start", self.arrived.accept, KEY, wrong, "1" * (DIGITS_MOST + 1))
            out_of_range(self, "start", self.arrived.accept, KEY, wrong, "")

    def test_then_the_bits(self):
        for start in (0, 2, 4, START_MOST):
            out_of_range(self, "bits", self.arrived.accept, KEY, start, "1" * (DIGITS_MOST + 1))
            out_of_range(self, "bits", self.arrived.accept, KEY, start, "1" * 200000)

    def test_then_bits_ahead(self):
        for start in (4, 5, START_MOST):
            for bits in ("", "1", "0000", "1" * DIGITS_MOST):
                with self.assertRaises(BitsAhead):
                    self.arrived.accept(KEY, start, bits)

    def test_then_a_contradiction(self):
        for start, bits in ((0, "1"), (0, "00"), (0, "011"), (0, "0110000"), (1, "0"), (2, "1"),
                            (2, "1" * DIGITS_MOST), (0, "1" * DIGITS_MOST), (1, "0" * 1000)):
            with self.assertRaises(Contradiction):
                self.arrived.accept(KEY, start, bits)

    def test_then_no_such_packet(self):
        for start, bits in ((0, "010000"), (2, "0000"), (3, "000"), (3, "1" * DIGITS_MOST),
                            (0, "010" + "0" * (DIGITS_MOST - 3))):
            with self.assertRaises(NoSuchPacket):
                self.arrived.accept(KEY, start, bits)

    def test_digits_raises_as_check_key(self):
        for function in (self.arrived.digits, lambda key: known_text(self.arrived, key)):
            for wrong in (-1, 1, HUGE, -HUGE):
                out_of_range(self, "channel", function, (wrong, 1, 2))
                out_of_range(self, "tile", function, (0, wrong, 2))
            for wrong in (-1, 2, HUGE, -HUGE):
                out_of_range(self, "plane", function, (0, 0, wrong))


class Objects(unittest.TestCase):
    def test_packets_in_the_order_of_keys(self):
        chance = random.Random(28)
        frame = Frame(5, 4, 2, 3, 2)
        packets = all_packets(frame, random_picture(chance, frame))
        for many in (0, 1, 7, len(packets)):
            chosen = chance.sample(packets, many)
            arrived = Arrived(frame)
            for key, code in chosen:
                arrived.accept(key, 0, code)
            self.assertEqual(arrived.packets(), [packet for packet in packets if packet in chosen])
            self.assertEqual(arrived.digit_count(), sum(len(code) for _, code in chosen))

    def test_a_packet_of_which_a_piece_without_digits_came(self):
        arrived = small()
        arrived.accept(OTHER, 0, "")
        self.assertEqual(arrived.packets(), [])

    def test_each_list_is_new(self):
        arrived = point_34()
        wanted = [((0, 0, 1), "00"), ((0, 0, 0), "010")]
        arrived.packets().clear()
        arrived.packets().append(((0, 0, 1), "1"))
        self.assertEqual(arrived.packets(), wanted)

    def test_a_duplicate(self):
        one = point_34()
        other = one.duplicate()
        self.assertTrue(one.same(other) and other.same(one))
        self.assertTrue(one.frame.same(other.frame))
        self.assertEqual(other.packets(), one.packets())
        for key in (KEY, OTHER):
            self.assertEqual(known_text(other, key), known_text(one, key))

    def test_later_pieces_do_not_reach_the_other(self):
        for first in (True, False):
            one = point_34()
            other = one.duplicate()
            changed, kept = (one, other) if first else (other, one)
            changed.accept(KEY, 2, "111")
            self.assertEqual(kept.packets(), [(KEY, "00"), (OTHER, "010")])
            self.assertEqual(known_text(kept, KEY), "000?")
            self.assertEqual(changed.packets(), [(KEY, "00111"), (OTHER, "010")])
            self.assertEqual(known_text(changed, KEY), "0001")
            self.assertFalse(one.same(other) or other.same(one))
            kept.accept(KEY, 2, "0")
            self.assertEqual(known_text(changed, KEY), "0001")

    def test_same(self):
        one = point_34()
        self.assertTrue(one.same(one))
        self.assertTrue(one.same(point_34()))
        for key, start, bits in ((KEY, 2, "1"), (OTHER, 3, "0")):
            other = point_34()
            other.accept(key, start, bits)
            self.assertFalse(one.same(other) or other.same(one))
        # The keys have the same numbers in these frames.
        for shape in ((2, 2, 2, 1, 3), (4, 1, 2, 1, 4)):
            other = Arrived(Frame(*shape))
            self.assertFalse(small().same(other) or other.same(small()))
            other.accept((0, 0, 1), 0, "0")
            self.assertFalse(with_digits("0").same(other) or other.same(with_digits("0")))

    def test_the_same_known_bits_with_other_digits(self):
        one, other = with_digits("001"), with_digits("00111")
        self.assertEqual(known_text(one, KEY), known_text(other, KEY))
        self.assertFalse(one.same(other) or other.same(one))


class Pieces(unittest.TestCase):
    def arrive(self, frame, pieces):
        """Return the object after the pieces came, each again while digits ahead of it are missing."""
        arrived = Arrived(frame)
        waiting = pieces
        while waiting:
            later = []
            for piece in waiting:
                try:
                    arrived.accept(*piece)
                except BitsAhead:
                    later.append(piece)
            self.assertLess(len(later), len(waiting))
            waiting = later
        return arrived

    def test_every_order_with_each_piece_twice(self):
        frame = Frame(2, 2, 1, 1, 2)
        code = encode(2, "0010")
        pieces = [((0, 0, 0), start, code[start:end]) for start, end in ((0, 2), (1, 4), (4, 5))]
        for row in itertools.permutations(pieces * 2):
            arrived = self.arrive(frame, list(row))
            self.assertEqual(arrived.packets(), [((0, 0, 0), code)])
            self.assertEqual(known_text(arrived, (0, 0, 0)), "0010")

    def test_many_pieces_of_a_picture(self):
        chance = random.Random(29)
        frame = Frame(5, 4, 3, 3, 4)
        packets = all_packets(frame, random_picture(chance, frame))
        pieces = []
        for key, code in packets:
            pieces += [(key, start, code[start:start + 3]) for start in range(0, len(code), 2)]
        for _ in range(5):
            row = pieces * 2
            chance.shuffle(row)
            self.assertEqual(self.arrive(frame, row).packets(), packets)


class Known(unittest.TestCase):
    def test_the_example_of_point_34(self):
        self.assertEqual(known_text(point_34(), (0, 0, 1)), "000?")
        self.assertEqual(known_text(point_34(), (0, 0, 0)), "0???")

    def wanted(self, rows):
        """Return what these rows of bits have in common, with a question mark for each other place."""
        prefix = brute.common(rows)
        return prefix + "?" * (len(rows[0]) - len(prefix))

    def test_against_all_rows_of_bits(self):
        for shape in ((2, 2, 1, 1, 2), (5, 1, 1, 1, 3), (3, 2, 1, 1, 2), (2, 3, 2, 1, 3), (7, 1, 1, 1, 16)):
            frame = Frame(*shape)
            for key in all_keys(frame):
                width, height = tile_size(frame, key[1])
                for bits in brute.all_bits(width * height):
                    arrived = Arrived(frame)
                    code = brute.code(width, bits)
                    for at in range(len(code)):
                        arrived.accept(key, at, code[at])
                        rows = brute.possible(width, width * height, code[:at + 1])
                        self.assertEqual(known_text(arrived, key), self.wanted(rows))

    def test_large_tiles(self):
        chance = random.Random(30)
        frame = Frame(20, 18, 2, 1, 16)
        for key, code in all_packets(frame, random_picture(chance, frame)):
            width, height = tile_size(frame, key[1])
            arrived = Arrived(frame)
            self.assertEqual(known_text(arrived, key), "?" * (width * height))
            for start in range(0, len(code), 40):
                arrived.accept(key, start, code[start:start + 40])
                wanted = known(width, width * height, code[:start + 40])
                self.assertEqual(known_text(arrived, key), wanted)


if __name__ == "__main__":
    unittest.main()
