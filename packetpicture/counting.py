"""The numbers of bits that are possible for a prefix of a code (point 27)."""

from packetpicture.coder import check_prefix, opens
from packetpicture.contexts import Coding
from packetpicture.digits import digits_of, number_of


def binary(value, count):
    """Return the lowest `count` binary digits of a value, the highest one first."""
    return digits_of(value, count)


def binary_value(bits):
    """Return the value of a bit string as a binary number; that of the empty string is 0."""
    return number_of(bits)


def bits_at(width, count, top, digits):
    """Return the bits in whose interval top / 2^digits lies, or the last bits if this is 1."""
    coding = Coding(width)
    for _ in range(count):
        border, bottom = coding.border()
        coding.take("1" if border << digits <= top * bottom else "0")
    return coding.bits


def possible_or_beside(width, code, bits, step):
    """Return the bits if they are possible, or else those one step further if they are, or None."""
    if opens(width, code, bits):
        return bits
    value = number_of(bits) + step
    if value < 0 or value >= 1 << len(bits):
        return None
    beside = digits_of(value, len(bits))
    return beside if opens(width, code, beside) else None


# Bits whose interval lies in the cell of the code are possible, and bits whose interval does not
# meet the cell are not. So the first and the last possible bits are those at an end of the cell,
# or the ones beside them.


def first_bits(width, count, code):
    """Return the first possible bits, or None; the arguments are not checked."""
    bits = bits_at(width, count, number_of(code), len(code))
    return possible_or_beside(width, code, bits, 1)


def last_bits(width, count, code):
    """Return the last possible bits, or None; the arguments are not checked."""
    bits = bits_at(width, count, number_of(code) + 1, len(code))
    return possible_or_beside(width, code, bits, -1)


def count_possible(width, count, code):
    """Return the number of possible bits."""
    check_prefix(width, count, code)
    first = first_bits(width, count, code)
    if first is None:
        return 0
    return number_of(last_bits(width, count, code)) - number_of(first) + 1


def first_possible(width, count, code):
    """Return the first possible bits, or None if the code is impossible."""
    check_prefix(width, count, code)
    return first_bits(width, count, code)


def rank_among(width, code, bits):
    """Return the number of possible bits before these possible ones."""
    return number_of(bits) - number_of(first_bits(width, len(bits), code))


def possible_at(width, count, code, number):
    """Return the possible bits with this rank."""
    return digits_of(number_of(first_bits(width, count, code)) + number, count)
