"""What is known of a picture (points 30 to 33)."""

from packetpicture.checks import check_range
from packetpicture.errors import OutOfRange
from packetpicture.frames import check_pixel, locate_pixel
from packetpicture.grays import stored_channels
from packetpicture.pictures import Picture


def gray_at(arrived, channel, pixel, plane):
    """Return the gray bit, or None if it is not known; the arguments are not checked."""
    tile, place = locate_pixel(arrived.frame, pixel)
    gray = 0
    for stored in stored_channels(arrived.frame.channels, channel):
        bit = arrived.known_bit((stored, tile, plane), place)
        if bit is None:
            return None
        gray = gray ^ bit
    return gray


def grays_at(arrived, channel, pixel):
    """Return the gray bits from the highest plane on, None for each that is not known."""
    return [
        gray_at(arrived, channel, pixel, plane)
        for plane in reversed(range(arrived.frame.depth))
    ]


def end_of(grays, unknown):
    """Return the value with these gray bits and with the bit `unknown` where there is None."""
    value = 0
    for gray in grays:
        bit = unknown if gray is None else gray ^ (value & 1)
        value = value * 2 + bit
    return value


def ends_at(arrived, channel, pixel):
    """Return the least and the greatest value of a pixel; the arguments are not checked."""
    grays = grays_at(arrived, channel, pixel)
    return end_of(grays, 0), end_of(grays, 1)


def middle_of(least, greatest):
    """Return the value that is shown for a pixel with these ends."""
    return (least + greatest) // 2


def error_of(least, greatest):
    """Return the error bound of a pixel with these ends."""
    return greatest - middle_of(least, greatest)


def all_ends(arrived):
    """Return for each channel the list of the least and greatest values of all pixels."""
    frame = arrived.frame
    return [
        [ends_at(arrived, channel, pixel) for pixel in range(frame.pixels())]
        for channel in range(frame.channels)
    ]


def gray_known(arrived, channel, pixel, plane):
    """Return the gray bit of a pixel in a plane, or None if it is not known."""
    check_pixel(arrived.frame, channel, pixel)
    check_range("plane", plane, 0, arrived.frame.depth - 1)
    return gray_at(arrived, channel, pixel, plane)


def least_value(arrived, channel, pixel):
    """Return the least value that a pixel can still have."""
    check_pixel(arrived.frame, channel, pixel)
    return ends_at(arrived, channel, pixel)[0]


def greatest_value(arrived, channel, pixel):
    """Return the greatest value that a pixel can still have."""
    check_pixel(arrived.frame, channel, pixel)
    return ends_at(arrived, channel, pixel)[1]


def shown_value(arrived, channel, pixel):
    """Return the value that is shown for a pixel."""
    check_pixel(arrived.frame, channel, pixel)
    least, greatest = ends_at(arrived, channel, pixel)
    return middle_of(least, greatest)


def error_bound(arrived, channel, pixel):
    """Return by how much the value of a pixel differs from the shown value at most."""
    check_pixel(arrived.frame, channel, pixel)
    least, greatest = ends_at(arrived, channel, pixel)
    return error_of(least, greatest)


def possible_values(arrived, channel, pixel):
    """Return all values that a pixel can still have, in ascending order."""
    check_pixel(arrived.frame, channel, pixel)
    values = [0]
    for gray in grays_at(arrived, channel, pixel):
        values = [
            value * 2 + bit
            for value in values
            for bit in (0, 1)
            if gray is None or gray == bit ^ (value & 1)
        ]
    return values


def value_range(arrived, channel, pixel):
    """Return the tuple (least, greatest, shown, error bound, possible values) of a pixel."""
    check_pixel(arrived.frame, channel, pixel)
    least, greatest = ends_at(arrived, channel, pixel)
    shown = middle_of(least, greatest)
    bound = error_of(least, greatest)
    return least, greatest, shown, bound, possible_values(arrived, channel, pixel)


def greatest_error(arrived):
    """Return the largest error bound of all pixels in all channels."""
    return max([error_of(least, greatest) for row in all_ends(arrived) for least, greatest in row])


def exact_count(arrived):
    """Return how many values, of all pixels in all channels, are known exactly."""
    return len([1 for row in all_ends(arrived) for least, greatest in row if least == greatest])


def viewed(least, greatest, which):
    """Return the one of the three values of a pixel that a view has."""
    if which == "least":
        return least
    if which == "greatest":
        return greatest
    return middle_of(least, greatest)


def view(arrived, which):
    """Return the picture of all least, shown or greatest values."""
    if which not in ("least", "shown", "greatest"):
        raise OutOfRange("view")
    rows = [
        [viewed(least, greatest, which) for least, greatest in row]
        for row in all_ends(arrived)
    ]
    frame = arrived.frame
    return Picture(frame.width, frame.height, frame.depth, frame.channels, rows)
