"""Points 65 and 66: the blocks of records and headers."""

import random
import unittest

from packetpicture.blocks import RECORD_MOST, decode_header, decode_record, encode_header, encode_record
from packetpicture.files import pack
from packetpicture.frames import Frame


class Records(unittest.TestCase):
    def test_a_block_byte_by_byte(self):
        # The digits of the second packet of point 51.
        block = encode_record(2, 3, "010000001")
        self.assertEqual(block, [75, 0, 2, 0, 3, 9, 64, 128] + [0] * 23 + [75])
        self.assertEqual(encode_record(258, 65535, "1" * 160),
                         [75, 1, 2, 255, 255, 160] + [255] * 20 + [0] * 5 + [75])

    def test_there_and_back(self):
        chance = random.Random(65)
        self.assertEqual(RECORD_MOST, 160)
        for count in (1, 7, 8, 9, 15, 16, 17, 152, 153, 159, 160):
            for number, start in ((0, 0), (255, 256), (256, 255), (24575, 65535), (65535, 300)):
                digits = "".join(chance.choice("01") for _ in range(count))
                block = encode_record(number, start, digits)
                self.assertEqual(len(block), 32)
                self.assertEqual(block[6:6 + (count + 7) // 8], pack(digits))
                self.assertEqual(sum(block[6 + (count + 7) // 8:31]), 0)
                kept = list(block)
                self.assertEqual(decode_record(block), (number, start, digits))
                self.assertEqual(block, kept)

    def test_the_first_and_the_last_byte(self):
        for at in (0, 31):
            for wrong in (0, 72, 74, 76, 255):
                block = encode_record(1, 2, "0101")
                block[at] = wrong
                self.assertIsNone(decode_record(block))
        self.assertIsNone(decode_record([0] * 32))

    def test_the_number_of_digits(self):
        for count in (0, 161, 162, 255):
            block = encode_record(1, 2, "0101")
            block[5] = count
            self.assertIsNone(decode_record(block))
        for count in (1, 160):
            block = encode_record(1, 2, "0101")
            block[5] = count
            self.assertEqual(decode_record(block), (1, 2, ("0101" + "0" * 156)[:count]))

    def test_the_bytes_that_are_not_checked(self):
        block = encode_record(1, 2, "0101")
        block[6] += 15
        for at in range(7, 31):
            block[at] = 200
        self.assertEqual(decode_record(block), (1, 2, "0101"))
        # The five bytes behind the digits hold none.
        block[5] = 160
        self.assertEqual(decode_record(block), (1, 2, "01011111" + "11001000" * 19))


class Headers(unittest.TestCase):
    def test_a_block_byte_by_byte(self):
        block = encode_header(7, Frame(64, 16, 8, 3, 5))
        self.assertEqual(block, [72, 7, 64, 16, 8, 3, 5] + [0] * 24 + [72])

    def test_there_and_back(self):
        for generation in (0, 1, 127, 128, 254, 255):
            for numbers in ((1, 1, 1, 1, 1), (64, 48, 8, 1, 16), (64, 16, 8, 3, 16), (16, 64, 3, 3, 7)):
                block = encode_header(generation, Frame(*numbers))
                self.assertEqual(len(block), 32)
                found = decode_header(block)
                self.assertIs(type(found), tuple)
                self.assertEqual(found[0], generation)
                self.assertTrue(found[1].same(Frame(*numbers)))

    def changed(self, at, byte):
        """Return the block of a header with another byte."""
        block = encode_header(9, Frame(3, 2, 4, 1, 2))
        block[at] = byte
        return block

    def test_the_first_and_the_last_byte(self):
        for at in (0, 31):
            for wrong in (0, 71, 73, 75, 255):
                self.assertIsNone(decode_header(self.changed(at, wrong)))
        self.assertIsNone(decode_header([0] * 32))

    def test_each_number_at_its_bounds_and_beyond(self):
        for at, right, wrong in (
            (2, (1, 64), (0, 65, 255)), (3, (1, 64), (0, 65, 255)), (4, (1, 8), (0, 9, 255)),
            (5, (1, 3), (0, 2, 4, 255)), (6, (1, 16), (0, 17, 255)),
        ):
            for byte in right:
                frame = decode_header(self.changed(at, byte))[1]
                numbers = [frame.width, frame.height, frame.depth, frame.channels, frame.tile]
                self.assertEqual(numbers, self.changed(at, byte)[2:7])
            for byte in wrong:
                self.assertIsNone(decode_header(self.changed(at, byte)))

    def test_too_many_values(self):
        for numbers, right in (((64, 48, 1), True), ((64, 49, 1), False), ((32, 32, 3), True), ((33, 32, 3), False)):
            width, height, channels = numbers
            block = [72, 0, width, height, 8, channels, 16] + [0] * 24 + [72]
            self.assertEqual(decode_header(block) is not None, right)

    def test_the_bytes_that_are_not_checked(self):
        block = encode_header(9, Frame(3, 2, 4, 1, 2))
        for at in range(7, 31):
            block[at] = at * 8 % 256
        block[1] = 200
        found = decode_header(block)
        self.assertEqual(found[0], 200)
        self.assertTrue(found[1].same(Frame(3, 2, 4, 1, 2)))


if __name__ == "__main__":
    unittest.main()
