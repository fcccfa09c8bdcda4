"""What the points say, computed by going through all bits and by exact fractions."""

import functools
import itertools
from fractions import Fraction


def context(width, bits, place):
    """Return the context of point 18."""
    column, row = place % width, place // width
    total = 0
    for part, across, down in ((1, -1, 0), (2, -1, -1), (4, 0, -1), (8, 1, -1)):
        if 0 <= column + across < width and row + down >= 0:
            total += part * int(bits[(row + down) * width + column + across])
    return total


def shares(width, bits, place):
    """Return (z, o) of point 19."""
    same = [bits[at] for at in range(place) if context(width, bits, at) == context(width, bits, place)]
    return 1 + same.count("0"), 1 + same.count("1")


def interval(width, bits):
    """Return (low, size, whole) of point 19."""
    low, size, whole = 0, 1, 1
    for place, bit in enumerate(bits):
        z, o = shares(width, bits, place)
        if bit == "0":
            low, size, whole = low * (z + o), size * z, whole * (z + o)
        else:
            low, size, whole = low * (z + o) + size * z, size * o, whole * (z + o)
    return low, size, whole


@functools.cache
def code(width, bits):
    """Return the code of point 21."""
    low, size, whole = interval(width, bits)
    start, end = Fraction(low, whole), Fraction(low + size, whole)
    for count in itertools.count():
        value = -(-start.numerator * 2 ** count // start.denominator)
        if Fraction(value + 1, 2 ** count) <= end:
            return format(value, "b").zfill(count) if count else ""


def all_bits(count):
    """Return all bit strings of this length, in ascending order."""
    return ["".join(bits) for bits in itertools.product("01", repeat=count)]


def possible(width, count, start):
    """Return all bits whose code begins with `start`, in ascending order."""
    return [bits for bits in all_bits(count) if code(width, bits).startswith(start)]


def common(rows):
    """Return what all of these strings begin with."""
    kept = rows[0]
    while not all(row.startswith(kept) for row in rows):
        kept = kept[:-1]
    return kept


def strings(most):
    """Return all bit strings of at most this length."""
    return [bits for count in range(most + 1) for bits in all_bits(count)]


def starts(width, count):
    """Return all strings that begin some code, and all of these with one more digit."""
    found = {""}
    for bits in all_bits(count):
        whole = code(width, bits)
        found.update(whole[:many] for many in range(len(whole) + 1))
    found.update([start + digit for start in sorted(found) for digit in "01"])
    return sorted(found)
