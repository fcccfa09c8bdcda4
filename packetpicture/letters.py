"""Rows of letters, as lists of tuples that end with a bit string (point 61)."""

from packetpicture.checks import check_range
from packetpicture.errors import NoLetter

LETTER_MOST = 1000000


def check_letter(letters, number):
    """Raise NoLetter if no letter has this index."""
    if number < 0 or number >= len(letters):
        raise NoLetter("no letter has this index")


def without(letters, number):
    """Return the letters without one of them."""
    check_letter(letters, number)
    return letters[:number] + letters[number + 1:]


def with_copy(letters, number):
    """Return the letters with a copy of one of them at the end."""
    check_letter(letters, number)
    return letters + [letters[number]]


def with_other(letters, number, letter):
    """Return the letters with another one in place of one of them."""
    check_letter(letters, number)
    return letters[:number] + [letter] + letters[number + 1:]


def with_shorter(letters, number, count):
    """Return the letters with only the first digits of one of them, or without it if none is left."""
    check_letter(letters, number)
    check_range("count", count, 0, LETTER_MOST)
    if count == 0:
        return without(letters, number)
    letter = letters[number]
    bits = letter[-1]
    return with_other(letters, number, letter[:-1] + (bits[:count],))
