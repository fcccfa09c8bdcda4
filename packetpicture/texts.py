"""Pictures as text (points 6 to 9).

A fault is first found as a tuple (index, words) with the index of a character,
and only then given a line and a column.
"""

from packetpicture.errors import OutOfRange, TextFault
from packetpicture.frames import SIDE_MOST, VALUES_MOST
from packetpicture.pictures import Picture

TEXT_MOST = 14000

GREATEST_VALUES = (1, 3, 7, 15, 31, 63, 127, 255)
HEADER_NAMES = ("width", "height", "greatest value")
GREATEST_MOST = 255
HEADER_SIZE = 3


def without_comments(text):
    """Return the text with a space in place of each character of a comment.

    All other characters keep their index, and a word still ends where a comment starts.
    """
    letters = []
    commented = False
    for letter in text:
        if letter == "#":
            commented = True
        elif letter == "\n":
            commented = False
        letters.append(" " if commented else letter)
    return "".join(letters)


def split_words(plain):
    """Return the words of a text without comments, as tuples (index of the start, word)."""
    words = []
    start = 0
    for at, letter in enumerate(plain + " "):
        if letter.isspace():
            if start < at:
                words.append((start, plain[start:at]))
            start = at + 1
    return words


def kind_fault(start, word):
    """Return the fault of the first word, or None; the empty word stands for no words."""
    if word[:1] != "P":
        return start, "expected P2 or P3"
    if word[1:2] not in ("2", "3"):
        return start + 1, "expected P2 or P3"
    if len(word) > 2:
        return start + 2, "unexpected character"
    return None


def is_digit(letter):
    """Return True if the character is a decimal digit."""
    return "0" <= letter <= "9"


def too_large_fault(start, word, most, name):
    """Return the fault within a number that is at most `most`, or None."""
    number = 0
    for at, letter in enumerate(word):
        if not is_digit(letter):
            return start + at, "unexpected character"
        number = number * 10 + int(letter)
        if number > most:
            return start + at, f"{name} is more than {most}"
    return None


def values_expected(channels, numbers):
    """Return how many values a picture has, from the numbers of its header."""
    return numbers[0] * numbers[1] * channels


def digit_fault(start, word, channels, numbers):
    """Return the fault within a number that follows these numbers, or None."""
    place = len(numbers)
    if place < HEADER_SIZE:
        most = GREATEST_MOST if place == 2 else SIDE_MOST
        return too_large_fault(start, word, most, HEADER_NAMES[place])
    expected = values_expected(channels, numbers)
    if place == HEADER_SIZE + expected and is_digit(word[0]):
        return start, f"more than {expected} values"
    return too_large_fault(start, word, numbers[2], "value")


def ended_fault(end, channels, numbers):
    """Return the fault where the last of these numbers ends, or None."""
    place = len(numbers) - 1
    if place < 2 and numbers[place] == 0:
        return end, f"{HEADER_NAMES[place]} is 0"
    if place == 1 and values_expected(channels, numbers) > VALUES_MOST:
        return end, f"{values_expected(channels, numbers)} values, at most {VALUES_MOST}"
    if place == 2 and numbers[place] not in GREATEST_VALUES:
        return end, "greatest value must be 1, 3, 7, 15, 31, 63, 127 or 255"
    return None


def missing_fault(end, channels, numbers):
    """Return the fault of a text that ends after these numbers, or None."""
    place = len(numbers)
    if place < HEADER_SIZE:
        return end, f"{HEADER_NAMES[place]} is missing"
    expected = values_expected(channels, numbers)
    if place < HEADER_SIZE + expected:
        return end, f"{place - HEADER_SIZE} values, expected {expected}"
    return None


def number_of_word(word):
    """Return the number that a word of digits stands for."""
    # Python's own int refuses words with thousands of leading zeros.
    number = 0
    for letter in word:
        number = number * 10 + int(letter)
    return number


def scan_numbers(words, end, channels):
    """Return (fault, numbers): the first fault of the words after the first one, or None,
    and the numbers before it. The text ends at the index `end`."""
    numbers = []
    for start, word in words:
        fault = digit_fault(start, word, channels, numbers)
        if fault is None:
            numbers.append(number_of_word(word))
            fault = ended_fault(start + len(word), channels, numbers)
        if fault is not None:
            return fault, numbers
    return missing_fault(end, channels, numbers), numbers


def scan(text):
    """Return (fault, channels, numbers): the first fault of the text, or None,
    the number of channels, and the numbers before the fault."""
    plain = without_comments(text)
    words = split_words(plain)
    start, kind = words[0] if words else (len(plain), "")
    channels = 1 if kind == "P2" else 3
    fault = kind_fault(start, kind)
    if fault is not None:
        return fault, channels, []
    fault, numbers = scan_numbers(words[1:], len(plain), channels)
    return fault, channels, numbers


def check_length(text):
    """Raise OutOfRange if the text is too long."""
    if len(text) > TEXT_MOST:
        raise OutOfRange("text")


def placed(text, fault):
    """Return the fault with the line and the column of its index."""
    index, words = fault
    before = text[:index]
    return before.count("\n") + 1, index - before.rfind("\n"), words


def check_text(text):
    """Return None if the text is that of a picture, otherwise (line, column, words) of its fault."""
    check_length(text)
    fault = scan(text)[0]
    return None if fault is None else placed(text, fault)


def read_text(text):
    """Return the picture of a text."""
    check_length(text)
    fault, channels, numbers = scan(text)
    if fault is not None:
        line, column, words = placed(text, fault)
        raise TextFault(line, column, words)
    width, height, greatest = numbers[:HEADER_SIZE]
    values = numbers[HEADER_SIZE:]
    rows = [values[channel::channels] for channel in range(channels)]
    return Picture(width, height, greatest.bit_length(), channels, rows)


def line_of_row(picture, row):
    """Return the values of a row of pixels, all channels of a pixel together."""
    first = row * picture.width
    values = [
        picture.value(channel, pixel)
        for pixel in range(first, first + picture.width)
        for channel in range(picture.channels)
    ]
    return " ".join([str(value) for value in values])


def write_text(picture):
    """Return the written form of a picture."""
    lines = ["P2" if picture.channels == 1 else "P3"]
    lines.append(f"{picture.width} {picture.height}")
    lines.append(str((1 << picture.depth) - 1))
    for row in range(picture.height):
        lines.append(line_of_row(picture, row))
    return "\n".join(lines) + "\n"
