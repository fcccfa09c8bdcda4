"""Contexts and intervals (points 18 to 20)."""

from packetpicture.checks import check_range
from packetpicture.errors import OutOfRange

BITS_MOST = 256
WIDTH_MOST = 16
CODE_MOST = 400

CONTEXTS = 16


def check_width(width):
    """Raise OutOfRange unless the width is one of a tile."""
    check_range("width", width, 1, WIDTH_MOST)


def check_bits(bits):
    """Raise OutOfRange if there are more bits than a tile can have."""
    if len(bits) > BITS_MOST:
        raise OutOfRange("bits")


def check_code(code):
    """Raise OutOfRange if there are too many digits."""
    if len(code) > CODE_MOST:
        raise OutOfRange("code")


def context(width, bits, place):
    """Return the context of a place; only the bits before it count."""
    column = place % width
    total = 0
    if column != 0 and bits[place - 1] == "1":
        total += 1
    if place >= width:
        if column != 0 and bits[place - width - 1] == "1":
            total += 2
        if bits[place - width] == "1":
            total += 4
        if column < width - 1 and bits[place - width + 1] == "1":
            total += 8
    return total


class Coding:
    """Bits that are taken one after another, and the interval that they have."""

    def __init__(self, width):
        self.bits = ""
        self._width = width
        self._low = 0
        self._size = 1
        self._whole = 1
        self._zeros = [1] * CONTEXTS
        self._ones = [1] * CONTEXTS

    def shares(self):
        """Return (z, o) for the next bit."""
        here = context(self._width, self.bits, len(self.bits))
        return self._zeros[here], self._ones[here]

    def interval(self):
        """Return (low, size, whole)."""
        return self._low, self._size, self._whole

    def border(self):
        """Return the border after the bits as a fraction (top, bottom)."""
        zeros, ones = self.shares()
        both = zeros + ones
        return self._low * both + self._size * zeros, self._whole * both

    def take(self, bit):
        """Take the next bit."""
        here = context(self._width, self.bits, len(self.bits))
        zeros = self._zeros[here]
        ones = self._ones[here]
        self._low = self._low * (zeros + ones)
        self._whole = self._whole * (zeros + ones)
        if bit == "0":
            self._size = self._size * zeros
            self._zeros[here] += 1
        else:
            self._low = self._low + self._size * zeros
            self._size = self._size * ones
            self._ones[here] += 1
        self.bits = self.bits + bit


def coding_of(width, bits):
    """Return the coding that has taken these bits."""
    coding = Coding(width)
    for bit in bits:
        coding.take(bit)
    return coding


def shares(width, bits, place):
    """Return (z, o) for a bit at this place; only the bits before it count."""
    return coding_of(width, bits[:place]).shares()


def interval(width, bits):
    """Return (low, size, whole) of the interval of the bits; the fractions are not reduced."""
    return coding_of(width, bits).interval()
