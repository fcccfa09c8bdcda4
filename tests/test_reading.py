"""Points 52 and 53: how files are read."""

import random
import unittest

from packetpicture.files import write_file
from packetpicture.frames import Frame, all_keys, key_at
from packetpicture.packets import all_packets
from packetpicture.reading import FILE_MOST, read_file
from tests.checking import HUGE, out_of_range, random_picture
from tests.test_files import EXAMPLE, EXAMPLE_PACKETS, pair, small_frame


def checked(row):
    """Return a row of bytes with its check pair."""
    return row + pair(row)


def header(numbers, count):
    """Return the header of a file with these five numbers and this number of packets."""
    return checked([80, 80, 67, 49, *numbers, count // 256, count % 256])


def packet(number, count, row):
    """Return a packet with this number and count, and these bytes of digits."""
    return checked([number // 256, number % 256, count // 256, count % 256]) + checked(row)


SMALL = header((3, 2, 2, 1, 2), 2)
FIRST = packet(1, 1, [128])
SECOND = packet(2, 9, [64, 128])


class Reading(unittest.TestCase):
    def check(self, row, packets, flaw, whole=False, frame=(3, 2, 2, 1, 2)):
        """Check what reading a row of bytes returns; without five numbers, no frame is read."""
        kept = list(row)
        found = read_file(row)
        self.assertEqual(row, kept)
        self.assertIs(type(found), tuple)
        if frame is None:
            self.assertIsNone(found[0])
        else:
            self.assertTrue(found[0].same(Frame(*frame)))
        self.assertEqual(found[1:], (packets, flaw, whole))
        self.assertIs(found[3], whole)


class WholeFiles(Reading):
    def test_the_example_of_point_51(self):
        self.assertEqual(SMALL + FIRST + SECOND, EXAMPLE)
        self.check(EXAMPLE, EXAMPLE_PACKETS, None, True)

    def test_no_packets(self):
        self.check(header((3, 2, 2, 1, 2), 0), [], None, True)

    def test_what_was_written(self):
        chance = random.Random(52)
        for shape in ((3, 2, 2, 1, 2), (20, 20, 8, 1, 1), (5, 4, 3, 3, 4), (64, 48, 8, 1, 16)):
            frame = Frame(*shape)
            packets = all_packets(frame, random_picture(chance, frame))
            packets = [(key, code[:chance.randrange(len(code) + 1)]) for key, code in packets]
            chance.shuffle(packets)
            for rows in (packets, packets[:5], []):
                self.check(write_file(frame, rows), rows, None, True, shape)

    def test_digits_need_not_be_those_of_a_code(self):
        packets = [((0, 0, 1), "0" * 65535), ((0, 0, 0), ""), ((0, 1, 0), "1" * 2000)]
        self.check(write_file(small_frame(), packets), packets, None, True)

    def test_each_list_is_new(self):
        found = read_file(EXAMPLE)[1]
        found.clear()
        self.assertEqual(read_file(EXAMPLE)[1], EXAMPLE_PACKETS)


class Steps(Reading):
    def test_not_a_picture_file(self):
        flaw = (0, "not a picture file")
        for at, byte in enumerate((80, 80, 67, 49)):
            for wrong in (0, byte - 1, byte + 1, 255):
                row = list(EXAMPLE)
                row[at] = wrong
                for many in (at + 1, 4, 12, 13, 32):
                    if many > at:
                        self.check(row[:many], [], flaw, frame=None)

    def test_bytes_of_the_header_are_missing(self):
        self.check([], [], None, frame=None)
        for many in range(13):
            self.check(EXAMPLE[:many], [], None, frame=None)
        # Without the whole header, its other bytes are not looked at.
        self.check([80, 80, 67, 49] + [255] * 8, [], None, frame=None)

    def test_header_is_damaged(self):
        flaw = (0, "header is damaged")
        for at in range(4, 13):
            for change in (1, 128, 255):
                row = list(EXAMPLE)
                row[at] = (row[at] + change) % 256
                self.check(row, [], flaw, frame=None)
                self.check(row[:13], [], flaw, frame=None)
        self.check([80, 80, 67, 49] + [0] * 9, [], flaw, frame=None)

    def test_frame_is_not_possible(self):
        flaw = (4, "frame is not possible")
        for numbers in ((0, 2, 2, 1, 2), (65, 2, 2, 1, 2), (3, 0, 2, 1, 2), (3, 65, 2, 1, 2), (3, 2, 0, 1, 2),
                        (3, 2, 9, 1, 2), (3, 2, 2, 0, 2), (3, 2, 2, 2, 2), (3, 2, 2, 4, 2), (3, 2, 2, 1, 0),
                        (3, 2, 2, 1, 17), (64, 49, 1, 1, 1), (64, 17, 1, 3, 1), (255, 255, 255, 255, 255)):
            for count in (0, 2, 65535):
                self.check(header(numbers, count), [], flaw, frame=None)
                self.check(header(numbers, count) + FIRST, [], flaw, frame=None)
        for numbers in ((64, 48, 8, 1, 1), (64, 16, 8, 3, 16), (1, 1, 1, 1, 1)):
            self.check(header(numbers, 0), [], None, True, numbers)

    def test_too_many_packets(self):
        flaw = (9, "too many packets")
        for numbers, most in (((3, 2, 2, 1, 2), 4), ((1, 1, 1, 1, 1), 1), ((64, 48, 8, 1, 1), 24576)):
            for count in (most + 1, 65535):
                self.check(header(numbers, count), [], flaw, frame=None)
                self.check(header(numbers, count) + FIRST, [], flaw, frame=None)
            self.check(header(numbers, most), [], None, frame=numbers)

    def test_bytes_of_a_packet_header_are_missing(self):
        for many in range(6):
            self.check(SMALL + [255] * many, [], None)
            self.check(SMALL + FIRST + [255] * many, EXAMPLE_PACKETS[:1], None)

    def test_packet_header_is_damaged(self):
        words = "packet header is damaged"
        for at in range(6):
            for change in (1, 128, 255):
                row = list(EXAMPLE)
                row[13 + at] = (row[13 + at] + change) % 256
                self.check(row, [], (13, words))
                self.check(row[:19], [], (13, words))
                row = list(EXAMPLE)
                row[22 + at] = (row[22 + at] + change) % 256
                self.check(row, EXAMPLE_PACKETS[:1], (22, words))
                self.check(row[:28], EXAMPLE_PACKETS[:1], (22, words))

    def test_no_such_packet(self):
        for number in (4, 5, 255, 256, 65535):
            for row in ([], [128], [128, 128, 128]):
                head = packet(number, 1, [])[:6]
                self.check(SMALL + head + row, [], (13, "no such packet"))
                self.check(SMALL + FIRST + head + row, EXAMPLE_PACKETS[:1], (22, "no such packet"))
        self.check(SMALL + packet(3, 1, [128]), [((0, 1, 0), "1")], None)

    def test_packet_occurs_twice(self):
        flaw = (22, "packet occurs twice")
        for again in (FIRST, FIRST[:6], packet(1, 0, []), packet(1, 9, [1, 1])[:6]):
            self.check(SMALL + FIRST + again, EXAMPLE_PACKETS[:1], flaw)
        three = header((3, 2, 2, 1, 2), 3)
        for again in (FIRST, SECOND):
            self.check(three + FIRST + SECOND + again, EXAMPLE_PACKETS, (32, "packet occurs twice"))

    def test_bytes_of_the_digits_are_missing(self):
        key = (0, 0, 0)
        head = packet(2, 20, [])[:6]
        digits = checked([170, 204, 240])
        bits = ("", "10101010", "1010101011001100", "10101010110011001111", "10101010110011001111")
        for many, wanted in enumerate(bits):
            self.check(SMALL + head + digits[:many], [(key, wanted)], None)
            self.check(SMALL + FIRST + head + digits[:many], EXAMPLE_PACKETS[:1] + [(key, wanted)], None)
        self.check(SMALL + head + digits, [(key, bits[3])], None)
        # The digits of a packet whose bytes are missing are not checked.
        self.check(SMALL + head + [255, 255, 255, 0], [(key, "1" * 20)], None)
        for many in (0, 1):
            self.check(SMALL + packet(2, 0, [])[:6 + many], [(key, "")], None)

    def test_packet_is_damaged(self):
        for at in range(3):
            for change in (1, 128, 255):
                row = list(EXAMPLE)
                row[19 + at] = (row[19 + at] + change) % 256
                self.check(row, [], (19, "packet is damaged"))
                self.check(row[:22], [], (19, "packet is damaged"))
        for at in range(4):
            row = list(EXAMPLE)
            row[28 + at] = (row[28 + at] + 1) % 256
            self.check(row, EXAMPLE_PACKETS[:1], (28, "packet is damaged"))
        for wrong in ([0, 1], [1, 0], [255, 255]):
            self.check(SMALL + packet(1, 0, [])[:6] + wrong, [], (19, "packet is damaged"))

    def test_bits_behind_a_packet_are_not_zero(self):
        words = "bits behind a packet are not zero"
        for last in (1, 2, 64, 127, 129, 255):
            self.check(SMALL + packet(1, 1, [last]), [], (19, words))
            self.check(SMALL + FIRST + packet(2, 9, [64, last]), EXAMPLE_PACKETS[:1], (28, words))
        self.check(SMALL + packet(1, 7, [1]), [], (19, words))
        self.check(SMALL + packet(1, 7, [2]), [((0, 1, 1), "0000001")], None)
        self.check(SMALL + packet(1, 8, [1]), [((0, 1, 1), "00000001")], None)
        damaged = packet(1, 1, [129])
        damaged[-1] = (damaged[-1] + 1) % 256
        self.check(SMALL + damaged, [], (19, "packet is damaged"))

    def test_bytes_behind_the_last_packet(self):
        words = "bytes behind the last packet"
        for more in ([0], [80, 80], FIRST, EXAMPLE):
            self.check(EXAMPLE + more, EXAMPLE_PACKETS, (32, words))
            self.check(header((3, 2, 2, 1, 2), 0) + more, [], (13, words))


class Point53(Reading):
    def test_the_first_bytes_of_a_file(self):
        chance = random.Random(53)
        frame = Frame(5, 4, 2, 3, 4)
        packets = all_packets(frame, random_picture(chance, frame)) + []
        packets[3] = (packets[3][0], "")
        for one, rows in ((frame, packets), (small_frame(), EXAMPLE_PACKETS)):
            row = write_file(one, rows)
            numbers = (one.width, one.height, one.depth, one.channels, one.tile)
            for many in range(len(row)):
                wanted = self.lying_in(rows, many)
                self.check(row[:many], wanted, None, frame=None if many < 13 else numbers)

    def lying_in(self, packets, many):
        """Return the packets, the last one cut, that lie in the first bytes of their file."""
        found = []
        at = 13
        for key, bits in packets:
            if many < at + 6:
                return found
            found.append((key, bits[:8 * (many - at - 6)]))
            at += 6 + (len(bits) + 7) // 8 + 2
        return found

    def changed_files(self):
        """Return tuples (index of the first changed byte, row) with one or two adjacent bytes changed."""
        chance = random.Random(54)
        found = []
        for at in range(len(EXAMPLE)):
            for change in range(1, 256):
                found.append((at, self.with_change(EXAMPLE, at, change)))
                if at + 1 < len(EXAMPLE):
                    for other in (change, 256 - change, chance.randrange(1, 256)):
                        row = self.with_change(EXAMPLE, at, change)
                        found.append((at, self.with_change(row, at + 1, other)))
        return found

    def with_change(self, row, at, change):
        """Return the row with a byte that is larger by change, modulo 256."""
        return row[:at] + [(row[at] + change) % 256] + row[at + 1:]

    def test_changed_bytes(self):
        for at, row in self.changed_files():
            frame, packets, flaw, whole = read_file(row)
            self.assertIsNotNone(flaw)
            self.assertLessEqual(flaw[0], at)
            self.assertIs(whole, False)
            self.assertEqual(packets, EXAMPLE_PACKETS[:len(packets)])
            self.assertEqual(frame is None, at < 13)


class Errors(unittest.TestCase):
    def test_too_many_integers(self):
        self.assertEqual(FILE_MOST, 100000)
        row = EXAMPLE + [0] * (FILE_MOST - len(EXAMPLE))
        self.assertEqual(read_file(row)[2], (32, "bytes behind the last packet"))
        self.assertEqual(read_file([0] * FILE_MOST)[2], (0, "not a picture file"))
        out_of_range(self, "file", read_file, row + [0])
        out_of_range(self, "file", read_file, [0] * (FILE_MOST + 1))

    def test_integers_that_are_no_bytes(self):
        for wrong in (-1, 256, HUGE, -HUGE):
            out_of_range(self, "file", read_file, [wrong])
            for at in range(len(EXAMPLE)):
                out_of_range(self, "file", read_file, EXAMPLE[:at] + [wrong] + EXAMPLE[at + 1:])
            out_of_range(self, "file", read_file, EXAMPLE + [wrong])

    def test_any_bytes(self):
        chance = random.Random(55)
        for _ in range(300):
            row = EXAMPLE[:chance.randrange(33)] + [chance.randrange(256) for _ in range(chance.randrange(20))]
            frame, packets, flaw, whole = read_file(row)
            self.assertTrue(whole is False or row == EXAMPLE)
            if frame is not None:
                keys = [all_keys(frame).index(key) for key, _ in packets]
                self.assertEqual([key_at(frame, number) for number in keys], [key for key, _ in packets])


if __name__ == "__main__":
    unittest.main()
