"""Codes, and what is known from a prefix of a code (points 21 to 26)."""

from packetpicture.checks import check_range
from packetpicture.contexts import BITS_MOST, Coding, check_bits, check_code, check_width, interval
from packetpicture.digits import digits_of, number_of
from packetpicture.errors import OutOfRange


def shortest_cell(low, size, whole):
    """Return the shortest bit string whose cell lies in the interval, the first of that length."""
    # A shorter cell than this is wider than the interval.
    count = ((whole - 1) // size).bit_length()
    while True:
        value = ((low << count) + whole - 1) // whole
        if (value + 1) * whole <= (low + size) << count:
            return digits_of(value, count)
        count += 1


def code_of(width, bits):
    """Return the code of the bits; the arguments are not checked."""
    low, size, whole = interval(width, bits)
    return shortest_cell(low, size, whole)


def encode(width, bits):
    """Return the code of the bits."""
    check_width(width)
    check_bits(bits)
    return code_of(width, bits)


def opens(width, code, bits):
    """Return True if the code of the bits starts with `code`."""
    return code_of(width, bits).startswith(code)


def last_with_zero(bits, more):
    """Return the last bits, in ascending order, that go on with a 0 and have `more` bits after it."""
    return bits + "0" + "1" * more


def first_with_one(bits, more):
    """Return the first bits, in ascending order, that go on with a 1 and have `more` bits after it."""
    return bits + "1" + "0" * more


def bit_of_cell(coding, code, value):
    """Return the next bit if the cell of the code, whose value is given, is on one side of the border.

    Return None if the border is inside the cell.
    """
    top, bottom = coding.border()
    scaled = top << len(code)
    if (value + 1) * bottom <= scaled:
        return "0"
    if scaled <= value * bottom:
        return "1"
    return None


def next_bits(width, count, code, bits):
    """Return those of "0" and "1" with which the bits can go on, if the border is inside the cell."""
    more = count - len(bits) - 1
    found = []
    if opens(width, code, last_with_zero(bits, more)):
        found.append("0")
    if opens(width, code, first_with_one(bits, more)):
        found.append("1")
    return found


def prefix_of(width, count, code):
    """Return the known prefix of the bits, or None; the arguments are not checked."""
    if 16 * len(code) >= 17 * count + 848:
        return None
    value = number_of(code)
    coding = Coding(width)
    while len(coding.bits) < count:
        bit = bit_of_cell(coding, code, value)
        if bit is None:
            found = next_bits(width, count, code, coding.bits)
            if len(found) == 2:
                return coding.bits
            if len(found) == 0:
                return None
            bit = found[0]
        coding.take(bit)
    return coding.bits if opens(width, code, coding.bits) else None


def check_prefix(width, count, code):
    """Raise OutOfRange for the first of these that is beyond its limits."""
    check_width(width)
    check_range("count", count, 0, BITS_MOST)
    check_code(code)


def known_prefix(width, count, code):
    """Return the known prefix of `count` bits, or None if the code is impossible."""
    check_prefix(width, count, code)
    return prefix_of(width, count, code)


def marked(prefix, count):
    """Return the known prefix of `count` bits with a question mark for each other place."""
    return prefix + "?" * (count - len(prefix))


def known(width, count, code):
    """Return the known prefix with a question mark for each other place, or None."""
    prefix = known_prefix(width, count, code)
    return None if prefix is None else marked(prefix, count)


def sample_of(prefix, count, place, bit):
    """Return the sample for a known prefix of `count` bits; the arguments are not checked."""
    if len(prefix) == count:
        return prefix
    more = count - len(prefix) - 1
    lower = last_with_zero(prefix, more)
    return lower if lower[place] == bit else first_with_one(prefix, more)


def sample(width, count, code, place, bit):
    """Return possible bits, with this bit at this place if that is possible, or None."""
    check_prefix(width, count, code)
    check_range("place", place, 0, count - 1)
    if bit not in ("0", "1"):
        raise OutOfRange("bit")
    prefix = prefix_of(width, count, code)
    return None if prefix is None else sample_of(prefix, count, place, bit)
