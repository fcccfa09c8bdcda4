"""The blocks of records and headers (points 65 and 66)."""

from packetpicture.files import bytes_for, number_at, pack, two_bytes, unpack
from packetpicture.frames import frame_of

RECORD_MOST = 160

RECORD_MARK = 75
HEADER_MARK = 72

RECORD_FILL = 5
HEADER_FILL = 24

COUNT_AT = 5
DIGITS_AT = 6
NUMBERS_AT = 2
NUMBERS_END = 7


def is_marked(block, mark):
    """Return True if the first and the last byte of a block are the mark."""
    return block[0] == mark and block[-1] == mark


def encode_record(number, start, digits):
    """Return the block of a record."""
    empty_bytes = bytes_for(RECORD_MOST) - bytes_for(len(digits))
    row = two_bytes(number) + two_bytes(start) + [len(digits)]
    return [RECORD_MARK] + row + pack(digits) + [0] * (empty_bytes + RECORD_FILL) + [RECORD_MARK]


def decode_record(block):
    """Return (number, start, digits) of a valid record, or None."""
    count = block[COUNT_AT]
    if not is_marked(block, RECORD_MARK) or count < 1 or count > RECORD_MOST:
        return None
    return number_at(block, 1), number_at(block, 3), unpack(block[DIGITS_AT:-1], count)


def encode_header(generation, frame):
    """Return the block of a header."""
    numbers = [frame.width, frame.height, frame.depth, frame.channels, frame.tile]
    return [HEADER_MARK, generation] + numbers + [0] * HEADER_FILL + [HEADER_MARK]


def decode_header(block):
    """Return (generation, frame) of a valid header, or None."""
    frame = frame_of(block[NUMBERS_AT:NUMBERS_END])
    if not is_marked(block, HEADER_MARK) or frame is None:
        return None
    return block[1], frame
