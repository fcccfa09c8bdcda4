"""Points 6 to 9: pictures as text."""

import itertools
import random
import unittest

from packetpicture import texts
from packetpicture.errors import TextFault
from packetpicture.frames import Frame
from packetpicture.texts import check_text, read_text, write_text
from tests.checking import out_of_range, random_picture

KIND = "expected P2 or P3"
ODD = "unexpected character"
GREATEST = "greatest value must be 1, 3, 7, 15, 31, 63, 127 or 255"
EXAMPLE = "P3 2 1 3 0 1 2 3 0 1"

# Each text with the fault that point 8 names for it.
FAULTS = (
    # no words, and the first word
    ("", 1, 1, KIND),
    ("  ", 1, 3, KIND),
    ("\n", 2, 1, KIND),
    ("\n \t\r", 2, 4, KIND),
    ("# P2 1 1 1 0", 1, 13, KIND),
    ("# P2 1 1 1 0\n", 2, 1, KIND),
    ("x", 1, 1, KIND),
    ("p2 1 1 1 0", 1, 1, KIND),
    ("2", 1, 1, KIND),
    ("  x2", 1, 3, KIND),
    ("# P2\n\n  Q2", 3, 3, KIND),
    ("PP", 1, 2, KIND),
    ("P1 1 1 1 0", 1, 2, KIND),
    ("P4", 1, 2, KIND),
    ("\nP6", 2, 2, KIND),
    ("P", 1, 2, KIND),
    ("P ", 1, 2, KIND),
    ("P\n2", 1, 2, KIND),
    ("P\r2", 1, 2, KIND),
    ("P\t2", 1, 2, KIND),
    ("P#2", 1, 2, KIND),
    ("#\nP", 2, 2, KIND),
    ("P22 1 1 1 0", 1, 3, ODD),
    ("P3x", 1, 3, ODD),
    ("P2P2", 1, 3, ODD),
    # characters that are not digits
    ("P2 x", 1, 4, ODD),
    ("P2 1x 1 1 0", 1, 5, ODD),
    ("P2 -1 1 1 0", 1, 4, ODD),
    ("P2 +1 1 1 0", 1, 4, ODD),
    ("P2 1\n1.0 1 0", 2, 2, ODD),
    ("P2 1 1 0x", 1, 9, ODD),
    ("P2 1 1 1 x", 1, 10, ODD),
    ("P2 1 1 1 0 x", 1, 12, ODD),
    ("P2 1 1 1 0x", 1, 11, ODD),
    ("P2 1 1 1 # x\n y", 2, 2, ODD),
    ("P2 00/", 1, 6, ODD),
    ("P2 00:", 1, 6, ODD),
    # numbers after the last value
    ("P2 1 1 1 0 0", 1, 12, "more than 1 values"),
    ("P2 1 1 1 0 9", 1, 12, "more than 1 values"),
    ("P2 1 1 1 0\n0x", 2, 1, "more than 1 values"),
    (EXAMPLE + " 12", 1, 22, "more than 6 values"),
    (EXAMPLE + "#0\n\n#0\n  0", 4, 3, "more than 6 values"),
    # numbers that are too large
    ("P2 65 0 0", 1, 5, "width is more than 64"),
    ("P2 100 0 0", 1, 6, "width is more than 64"),
    ("P2 00065x", 1, 8, "width is more than 64"),
    ("P2 1 640", 1, 8, "height is more than 64"),
    ("P2 1\n# 1\n99", 3, 2, "height is more than 64"),
    ("P2 1 1 256", 1, 10, "greatest value is more than 255"),
    ("P2 1 1 0999", 1, 11, "greatest value is more than 255"),
    ("P2 1 1 7 8", 1, 10, "value is more than 7"),
    ("P2 1 1 7 10", 1, 11, "value is more than 7"),
    ("P2 2 1 255 255 256", 1, 18, "value is more than 255"),
    ("P2 1 1 1 2", 1, 10, "value is more than 1"),
    ("P2 1 1 15 " + "0" * 4999 + "16", 1, 5011, "value is more than 15"),
    # numbers that end with a wrong value
    ("P2 0 1 1 0", 1, 5, "width is 0"),
    ("P2 0", 1, 5, "width is 0"),
    ("P2 000\n65", 1, 7, "width is 0"),
    ("P2 0#", 1, 5, "width is 0"),
    ("P2 0\t", 1, 5, "width is 0"),
    ("P2 0\r", 1, 5, "width is 0"),
    ("P2 1 0 1 0", 1, 7, "height is 0"),
    ("P2 1 \n 00", 2, 4, "height is 0"),
    ("P2 1 0# 1", 1, 7, "height is 0"),
    ("P2 64 64 1", 1, 9, "4096 values, at most 3072"),
    ("P2 64 49", 1, 9, "3136 values, at most 3072"),
    ("P3 33 32\n", 1, 9, "3168 values, at most 3072"),
    ("P3 64 64#", 1, 9, "12288 values, at most 3072"),
    ("P3 25 41\t0", 1, 9, "3075 values, at most 3072"),
    ("P2 1 1 0", 1, 9, GREATEST),
    ("P2 1 1 2 0", 1, 9, GREATEST),
    ("P2 1 1 254\r0", 1, 11, GREATEST),
    ("P2 1 1 0004#", 1, 12, GREATEST),
    ("P2 1 1\n128\n", 2, 4, GREATEST),
    # what is missing at the end
    ("P2", 1, 3, "width is missing"),
    ("P3 \n\n", 3, 1, "width is missing"),
    ("P2#1 1 1 0", 1, 11, "width is missing"),
    ("P2 1", 1, 5, "height is missing"),
    ("P2 1 #1\n ", 2, 2, "height is missing"),
    ("P2 1 1", 1, 7, "greatest value is missing"),
    ("P2 64 48 # no more", 1, 19, "greatest value is missing"),
    ("P2 1 1 1", 1, 9, "0 values, expected 1"),
    ("P3 1 1 1 1 0", 1, 13, "2 values, expected 3"),
    ("P3 2 1 3 0 1 2 3 0", 1, 19, "5 values, expected 6"),
    ("P3 2 1 3 0 1 2 3 0\n", 2, 1, "5 values, expected 6"),
    ("P3 2 1 3 0 1 2 3 0 #1", 1, 22, "5 values, expected 6"),
)


def random_frame(chance):
    """Return a small frame that the source of chance chooses."""
    width, height, depth = chance.randint(1, 6), chance.randint(1, 6), chance.randint(1, 8)
    return Frame(width, height, depth, chance.choice((1, 3)), 1)


def position(text, index):
    """Return the line and the column of an index, counted character by character."""
    line = column = 1
    for letter in text[:index]:
        line, column = (line + 1, 1) if letter == "\n" else (line, column + 1)
    return line, column


class Faults(unittest.TestCase):
    def test_table_of_point_8(self):
        for text, line, column, words in FAULTS:
            self.assertEqual(check_text(text), (line, column, words), text)

    def test_read_text_raises_the_same_faults(self):
        for text, line, column, words in FAULTS:
            with self.assertRaises(TextFault) as caught:
                read_text(text)
            fault = caught.exception
            self.assertEqual((fault.line, fault.column, fault.words), (line, column, words), text)

    def test_the_fault_of_a_word_does_not_depend_on_what_follows(self):
        ends = {" ", "\n", "\t", "\r", "#", ""}
        for first, end in itertools.product(("P2 0", "P2 1 0", "P2 64 64", "P2 1 1 5"), ends):
            self.assertEqual(check_text(first + end + "x")[:2] if end else check_text(first)[:2],
                             (1, len(first) + 1), first + end)

    def test_beginnings_of_a_text(self):
        text = "P3 2 1\n3\n0 1 2\n3 0 1\n"
        missing = {0: KIND, 1: KIND, 2: "width is missing", 4: "height is missing",
                   6: "greatest value is missing", 8: "0 values, expected 6",
                   10: "1 values, expected 6", 12: "2 values, expected 6",
                   14: "3 values, expected 6", 16: "4 values, expected 6",
                   18: "5 values, expected 6"}
        words = KIND
        for many in range(20):
            words = missing.get(many, words)
            self.assertEqual(check_text(text[:many]), position(text, many) + (words,))
        for many in (20, 21):
            self.assertIsNone(check_text(text[:many]))

    def test_every_character_that_is_no_digit(self):
        for letter in map(chr, range(33, 127)):
            if letter not in "#%0123456789":
                for start in ("P2 ", "P2 1", "P2 1 1 1 0 ", "P2 1 1 1 0"):
                    self.assertEqual(check_text(start + letter), (1, len(start) + 1, ODD), letter)
                if letter != "P":
                    self.assertEqual(check_text(letter + "2"), (1, 1, KIND), letter)
                self.assertEqual(check_text("P" + letter), (1, 2, KIND), letter)
                self.assertEqual(check_text("P2" + letter), (1, 3, ODD), letter)

    def test_an_odd_character_anywhere(self):
        text = "P2 2 2\n# first\n3\n0 1\n2 3 # last\n"
        inside = [at for start in ("# first", "# last")
                  for at in range(text.index(start) + 1, text.index(start) + len(start) + 1)]
        for at in range(len(text) + 1):
            found = check_text(text[:at] + "x" + text[at:])
            if at in inside:
                self.assertIsNone(found)
            else:
                words = KIND if at < 2 else ODD
                self.assertEqual(found, position(text, at) + (words,))


class Words(unittest.TestCase):
    def test_the_example_of_point_9(self):
        picture = read_text(EXAMPLE)
        self.assertEqual(picture.rows(), [[0, 3], [1, 0], [2, 1]])
        self.assertEqual(
            (picture.width, picture.height, picture.depth, picture.channels), (2, 1, 2, 3))
        self.assertEqual(write_text(picture), "P3\n2 1\n3\n0 1 2 3 0 1\n")

    def test_one_channel(self):
        picture = read_text("P2 3 2 7 0 1 2 3 4 5")
        self.assertEqual(picture.rows(), [[0, 1, 2, 3, 4, 5]])
        self.assertEqual(write_text(picture), "P2\n3 2\n7\n0 1 2\n3 4 5\n")

    def test_words_parted_in_every_way(self):
        plain = read_text(EXAMPLE)
        for blank in (" ", "\t", "\n", "\r", "\r\n", "  \t\n\r ", "#\n", "# 9 P2 #x\n", " # 9\n#\n\n"):
            text = EXAMPLE.replace(" ", blank)
            for whole in (text, text + blank, blank + text, blank + text + blank):
                self.assertIsNone(check_text(whole), whole)
                self.assertTrue(read_text(whole).same(plain), whole)

    def test_a_comment_goes_on_after_a_carriage_return(self):
        self.assertEqual(check_text("P2 1 1 1 # \r0"), (1, 14, "0 values, expected 1"))
        self.assertIsNone(check_text("P2 1 1 1 # \r9\n0"))

    def test_comments_at_the_end_of_the_text(self):
        for end in ("#", "#\n", " #", "# 7", "#7", "#x\r", "\n#x", "##", "#\n#"):
            self.assertIsNone(check_text(EXAMPLE + end), end)

    def test_any_character_in_a_comment(self):
        letters = "".join(chr(code) for code in range(32, 127) if code != 37)
        self.assertIsNone(check_text(EXAMPLE + "#" + letters + "\t\r"))

    def test_leading_zeros(self):
        picture = read_text("P2 02 0001 0255 00 000255")
        self.assertEqual(picture.rows(), [[0, 255]])
        self.assertEqual((picture.width, picture.height, picture.depth), (2, 1, 8))
        zeros = "0" * 5000
        self.assertEqual(read_text("P2 1 1 15 " + zeros + "9").rows(), [[9]])
        self.assertEqual(read_text("P2 1 " + zeros + "1 15 " + zeros).rows(), [[0]])

    def test_depths(self):
        for depth in range(1, 9):
            most = 2 ** depth - 1
            picture = read_text(f"P2 2 1 {most} {most} 0")
            self.assertEqual((picture.depth, picture.row(0)), (depth, [most, 0]))

    def test_every_other_greatest_value(self):
        for greatest in range(256):
            if greatest not in (1, 3, 7, 15, 31, 63, 127, 255):
                text = f"P2 1 1 {greatest}"
                self.assertEqual(check_text(text + " 0"), (1, len(text) + 1, GREATEST))

    def test_largest_pictures(self):
        for text, values in (("P2 64 48 255", 3072), ("P2 48 64 255", 3072), ("P3 32 32 255", 3072)):
            whole = text + " 255" * values
            self.assertIsNone(check_text(whole))
            self.assertEqual(check_text(whole + " 0"), (1, len(whole) + 2, "more than 3072 values"))
            self.assertTrue(read_text(write_text(read_text(whole))).same(read_text(whole)))

    def test_reading_the_written_form(self):
        chance = random.Random(9)
        for _ in range(100):
            picture = random_picture(chance, random_frame(chance))
            text = write_text(picture)
            self.assertIsNone(check_text(text))
            self.assertTrue(read_text(text).same(picture))
            self.assertEqual(write_text(read_text(text)), text)


class Lengths(unittest.TestCase):
    def test_limit(self):
        self.assertEqual(texts.TEXT_MOST, 14000)

    def test_a_text_at_the_limit_and_beyond(self):
        start = "P2 1 1 1 1"
        for fill in (" ", "#"):
            text = start + fill * (14000 - len(start))
            self.assertIsNone(check_text(text))
            self.assertEqual(read_text(text).rows(), [[1]])
            out_of_range(self, "text", check_text, text + fill)
            out_of_range(self, "text", read_text, text + fill)
        self.assertEqual(check_text("x" * 14000), (1, 1, KIND))
        out_of_range(self, "text", check_text, "x" * 14001)
        out_of_range(self, "text", read_text, "x" * 14001)

    def test_lines_up_to_the_limit(self):
        self.assertEqual(check_text("\n" * 14000), (14001, 1, KIND))


if __name__ == "__main__":
    unittest.main()
