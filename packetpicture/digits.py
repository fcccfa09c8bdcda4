"""Bit strings and the numbers that they stand for."""


def digits_of(value, count):
    """Return the lowest `count` binary digits of a value, the highest one first."""
    power = 1 << count
    # One more digit in front keeps the leading zeros.
    led = power + value % power
    digits = f"{led:b}"
    return digits[1:]


def number_of(digits):
    """Return the value of a bit string as a binary number; that of the empty string is 0."""
    return int("0" + digits, 2)
