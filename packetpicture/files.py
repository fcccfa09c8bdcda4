"""Files of packets as bytes, and how they are written (points 49 and 50)."""

from packetpicture.digits import digits_of, number_of
from packetpicture.errors import OutOfRange, PacketTwice
from packetpicture.frames import check_key, key_number

MARK = (80, 80, 67, 49)
HEADER_SIZE = 13
PACKET_HEADER_SIZE = 6
PAIR_SIZE = 2

# What two bytes can hold.
COUNT_MOST = 65535


def check_pair(row):
    """Return the check pair of a list of bytes."""
    first = 0
    second = 0
    for byte in row:
        first = (first + byte) % 256
        second = (second + first) % 256
    return first, second


def with_pair(row):
    """Return a list of bytes followed by its check pair."""
    first, second = check_pair(row)
    return row + [first, second]


def two_bytes(number):
    """Return the two bytes of a number, the higher one first."""
    return [number // 256, number % 256]


def number_at(row, at):
    """Return the number in the two bytes from this index on."""
    return row[at] * 256 + row[at + 1]


def bytes_for(count):
    """Return how many bytes this many digits take."""
    return (count + 7) // 8


def pack(bits):
    """Return the bytes of a bit string, the last one filled with zeros."""
    filled = bits + "0" * (8 * bytes_for(len(bits)) - len(bits))
    return [number_of(filled[at:at + 8]) for at in range(0, len(filled), 8)]


def unpack(row, count):
    """Return the first `count` bits of the bytes, as many as there are."""
    bits = "".join([digits_of(byte, 8) for byte in row])
    return bits[:count]


def check_packets(frame, packets):
    """Raise the error of the first packet that cannot stand in a file."""
    seen = {}
    for key, bits in packets:
        check_key(frame, key)
        if len(bits) > COUNT_MOST:
            raise OutOfRange("bits")
        if key in seen:
            raise PacketTwice("a packet occurs twice")
        seen[key] = True


def header_bytes(frame, count):
    """Return the bytes of the header of a file with this many packets."""
    numbers = [frame.width, frame.height, frame.depth, frame.channels, frame.tile]
    return with_pair(list(MARK) + numbers + two_bytes(count))


def packet_bytes(frame, key, bits):
    """Return the bytes of a packet in a file."""
    header = two_bytes(key_number(frame, key)) + two_bytes(len(bits))
    return with_pair(header) + with_pair(pack(bits))


def write_file(frame, packets):
    """Return the bytes of the file of a list of packets."""
    check_packets(frame, packets)
    row = header_bytes(frame, len(packets))
    for key, bits in packets:
        row.extend(packet_bytes(frame, key, bits))
    return row
