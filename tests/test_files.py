"""Points 49 to 51: check pairs, bits as bytes, and how files are written."""

import random
import unittest

from packetpicture.errors import PacketTwice
from packetpicture.files import check_pair, pack, unpack, write_file
from packetpicture.frames import Frame, all_keys, key_number
from tests.checking import HUGE, out_of_range

HEADER = [80, 80, 67, 49, 3, 2, 2, 1, 2]
EXAMPLE = HEADER + [0, 2, 32, 170, 0, 1, 0, 1, 2, 4, 128, 128, 128,
                    0, 2, 0, 9, 11, 15, 64, 128, 192, 0]
EXAMPLE_PACKETS = [((0, 1, 1), "1"), ((0, 0, 0), "010000001")]


def pair(row):
    """Return the check pair as a list, by plain sums: each byte counts once for itself and for
    each byte behind it."""
    return [sum(row) % 256, sum(byte * (len(row) - at) for at, byte in enumerate(row)) % 256]


def small_frame():
    """Return the frame of point 51."""
    return Frame(3, 2, 2, 1, 2)


class Pairs(unittest.TestCase):
    def test_by_hand(self):
        for row, wanted in (([], (0, 0)), ([0], (0, 0)), ([5], (5, 5)), ([5, 1], (6, 11)), ([255], (255, 255)),
                            ([255, 1], (0, 255)), ([1, 255], (0, 1)), ([200, 100, 3], (47, 35)),
                            ([64, 128], (192, 0)), ([0, 2, 0, 9], (11, 15)), ([0, 0, 0, 0], (0, 0))):
            self.assertEqual(check_pair(row), wanted)

    def test_against_plain_sums(self):
        chance = random.Random(49)
        for count in list(range(20)) + [255, 256, 1000, 100000]:
            row = [chance.randrange(256) for _ in range(count)]
            self.assertEqual(list(check_pair(row)), pair(row))

    def test_the_order_of_the_bytes_counts(self):
        self.assertNotEqual(check_pair([1, 2]), check_pair([2, 1]))


class Bits(unittest.TestCase):
    def test_pack(self):
        for bits, wanted in (("", []), ("1", [128]), ("0", [0]), ("0000001", [2]), ("1111111", [254]),
                             ("00000001", [1]), ("11111111", [255]), ("000000001", [0, 128]),
                             ("010000001", [64, 128]), ("1" * 16, [255, 255]), ("0" * 17, [0, 0, 0])):
            self.assertEqual(pack(bits), wanted)

    def test_unpack(self):
        for row, count, wanted in (
            ([], 0, ""), ([], 9, ""), ([129], 0, ""), ([129], 1, "1"), ([129], 7, "1000000"),
            ([129], 8, "10000001"), ([129], 9, "10000001"), ([129], 100000, "10000001"),
            ([64, 128], 8, "01000000"), ([64, 128], 9, "010000001"), ([64, 128], 16, "0100000010000000"),
            ([64, 128], 17, "0100000010000000"), ([0, 0, 255], 7, "0000000"),
        ):
            self.assertEqual(unpack(row, count), wanted)
        self.assertEqual(unpack([64, 128], HUGE), "0100000010000000")

    def test_both_ways(self):
        chance = random.Random(50)
        for count in list(range(30)) + [160, 65535]:
            bits = "".join(chance.choice("01") for _ in range(count))
            row = pack(bits)
            self.assertEqual(len(row), (count + 7) // 8)
            self.assertTrue(all(0 <= byte <= 255 for byte in row))
            self.assertEqual(unpack(row, count), bits)
            self.assertEqual(unpack(row, 8 * len(row)), bits + "0" * (8 * len(row) - count))


class Written(unittest.TestCase):
    def test_the_example_of_point_51(self):
        self.assertEqual(len(EXAMPLE), 32)
        self.assertEqual(write_file(small_frame(), EXAMPLE_PACKETS), EXAMPLE)

    def test_no_packets(self):
        self.assertEqual(write_file(small_frame(), []), HEADER + [0, 0] + pair(HEADER + [0, 0]))

    def test_a_packet_without_digits(self):
        wanted = HEADER + [0, 1] + pair(HEADER + [0, 1]) + [0, 3, 0, 0] + pair([0, 3, 0, 0]) + [0, 0]
        self.assertEqual(write_file(small_frame(), [((0, 1, 0), "")]), wanted)

    def wanted_packet(self, frame, key, bits):
        """Return the bytes of a packet as point 50 says."""
        header = list(divmod(key_number(frame, key), 256)) + list(divmod(len(bits), 256))
        filled = bits + "0" * (-len(bits) % 8)
        digits = [int(filled[at:at + 8], 2) for at in range(0, len(filled), 8)]
        return header + pair(header) + digits + pair(digits)

    def test_against_the_words(self):
        chance = random.Random(51)
        for shape in ((3, 2, 2, 1, 2), (20, 20, 8, 1, 1), (5, 4, 3, 3, 4), (64, 48, 8, 1, 16)):
            frame = Frame(*shape)
            keys = all_keys(frame)
            for many in (1, 2, min(300, len(keys))):
                packets = []
                for key in chance.sample(keys, many):
                    count = chance.choice((0, 1, 7, 8, 9, 300))
                    packets.append((key, "".join(chance.choice("01") for _ in range(count))))
                wanted = [80, 80, 67, 49, *shape, many // 256, many % 256]
                wanted += pair(wanted)
                for key, bits in packets:
                    wanted += self.wanted_packet(frame, key, bits)
                kept = list(packets)
                self.assertEqual(write_file(frame, packets), wanted)
                self.assertEqual(packets, kept)

    def test_the_longest_packet(self):
        row = write_file(small_frame(), [((0, 0, 1), "1" * 65535)])
        self.assertEqual(len(row), 13 + 6 + 8192 + 2)
        self.assertEqual(row[13:17], [0, 0, 255, 255])
        self.assertEqual(row[19:-2], [255] * 8191 + [254])

    def test_all_keys_of_the_largest_frame(self):
        frame = Frame(64, 48, 8, 1, 1)
        row = write_file(frame, [(key, "1") for key in all_keys(frame)])
        self.assertEqual(row[9:11], [96, 0])
        self.assertEqual(len(row), 13 + 24576 * 9)
        self.assertEqual(row[-9:-5], [95, 255, 0, 1])


class Errors(unittest.TestCase):
    def test_the_errors_of_a_packet_in_order(self):
        frame, key, long = small_frame(), (0, 0, 1), "1" * 65536
        earlier = [(key, "1"), ((0, 1, 1), "0")]
        for wrong in (-1, 1, HUGE, -HUGE):
            out_of_range(self, "channel", write_file, frame, earlier + [((wrong, 2, 2), long)])
        for wrong in (-1, 2, HUGE, -HUGE):
            out_of_range(self, "tile", write_file, frame, earlier + [((0, wrong, 2), long)])
            out_of_range(self, "plane", write_file, frame, earlier + [((0, 1, wrong), long)])
        for twice in (key, (0, 1, 1)):
            out_of_range(self, "bits", write_file, frame, earlier + [(twice, long)])
            for bits in ("", "1", "1" * 65535):
                with self.assertRaises(PacketTwice):
                    write_file(frame, earlier + [(twice, bits)])

    def test_the_first_wrong_packet(self):
        frame, key, long = small_frame(), (0, 0, 1), "1" * 65536
        twice = [(key, "1"), (key, "1")]
        with self.assertRaises(PacketTwice):
            write_file(frame, twice + [((1, 0, 0), ""), ((0, 0, 0), long)])
        out_of_range(self, "channel", write_file, frame, [((1, 0, 0), "")] + twice)
        out_of_range(self, "bits", write_file, frame, [((0, 0, 0), long), ((0, 0, 2), "")] + twice)

    def test_digits_need_not_be_those_of_a_code(self):
        row = write_file(small_frame(), [((0, 0, 1), "0" * 1000)])
        self.assertEqual(len(row), 13 + 6 + 125 + 2)


if __name__ == "__main__":
    unittest.main()
