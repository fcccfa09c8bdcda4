"""How files are read (point 52)."""

from packetpicture.checks import check_range
from packetpicture.errors import OutOfRange
from packetpicture.files import (
    HEADER_SIZE,
    MARK,
    PACKET_HEADER_SIZE,
    PAIR_SIZE,
    bytes_for,
    check_pair,
    number_at,
    unpack,
)
from packetpicture.frames import frame_of, key_at

FILE_MOST = 100000

FRAME_AT = 4
COUNT_AT = 9


def check_file(row):
    """Raise OutOfRange if there are too many integers or one is not a byte."""
    if len(row) > FILE_MOST:
        raise OutOfRange("file")
    for byte in row:
        check_range("file", byte, 0, 255)


def is_checked(row):
    """Return True if the last two bytes are the check pair of those before them."""
    return tuple(row[-PAIR_SIZE:]) == check_pair(row[:-PAIR_SIZE])


def read_header(row):
    """Return (frame, flaw) of the header; without a frame and a flaw, bytes are missing."""
    start = tuple(row[:len(MARK)])
    if start != MARK[:len(start)]:
        return None, (0, "not a picture file")
    if len(row) < HEADER_SIZE:
        return None, None
    if not is_checked(row[:HEADER_SIZE]):
        return None, (0, "header is damaged")
    frame = frame_of(row[FRAME_AT:COUNT_AT])
    if frame is None:
        return None, (FRAME_AT, "frame is not possible")
    if number_at(row, COUNT_AT) > frame.packets():
        return None, (COUNT_AT, "too many packets")
    return frame, None


def header_words(frame, header, seen):
    """Return the words of the flaw of the first bytes of a packet, or None.

    `seen` is a dict with the numbers of the earlier packets.
    """
    if not is_checked(header):
        return "packet header is damaged"
    number = number_at(header, 0)
    if number >= frame.packets():
        return "no such packet"
    if number in seen:
        return "packet occurs twice"
    return None


def digits_words(row, count):
    """Return the words of the flaw of the bytes of `count` digits and their check pair, or None."""
    if not is_checked(row):
        return "packet is damaged"
    digits = unpack(row[:-PAIR_SIZE], 8 * bytes_for(count))
    return "bits behind a packet are not zero" if "1" in digits[count:] else None


def read_packets(frame, row):
    """Return (packets, flaw, whole) of what stands behind the header."""
    packets = []
    seen = {}
    at = HEADER_SIZE
    for _ in range(number_at(row, COUNT_AT)):
        start = at + PACKET_HEADER_SIZE
        if len(row) < start:
            return packets, None, False
        words = header_words(frame, row[at:start], seen)
        if words is not None:
            return packets, (at, words), False
        number = number_at(row, at)
        count = number_at(row, at + 2)
        end = start + bytes_for(count) + PAIR_SIZE
        packet = (key_at(frame, number), unpack(row[start:end - PAIR_SIZE], count))
        if len(row) < end:
            return packets + [packet], None, False
        words = digits_words(row[start:end], count)
        if words is not None:
            return packets, (start, words), False
        packets.append(packet)
        seen[number] = True
        at = end
    if at < len(row):
        return packets, (at, "bytes behind the last packet"), False
    return packets, None, True


def read_file(row):
    """Return (frame, packets, flaw, whole): what is read up to the first flaw or missing byte."""
    check_file(row)
    frame, flaw = read_header(row)
    if frame is None:
        return None, [], flaw, False
    packets, flaw, whole = read_packets(frame, row)
    return frame, packets, flaw, whole
