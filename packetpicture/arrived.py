"""What has arrived of the packets of a frame (points 28 and 29)."""

from packetpicture.checks import check_range
from packetpicture.coder import marked, prefix_of
from packetpicture.errors import BitsAhead, Contradiction, NoSuchPacket, OutOfRange
from packetpicture.frames import check_key, key_at, key_number, tile_places, tile_size

START_MOST = 65535
DIGITS_MOST = 65535


def check_piece(frame, key, start, bits):
    """Raise OutOfRange for the first part of a piece that is beyond its limits."""
    check_key(frame, key)
    check_range("start", start, 0, START_MOST)
    if len(bits) > DIGITS_MOST:
        raise OutOfRange("bits")


def new_digits(digits, start, bits):
    """Return what the bits, which begin at `start`, add to the digits."""
    if start > len(digits):
        raise BitsAhead("digits ahead of the piece have not arrived")
    old = digits[start:start + len(bits)]
    if not bits.startswith(old):
        raise Contradiction("the piece differs from what has arrived")
    return bits[len(old):]


def known_in_packet(frame, key, digits):
    """Return the known prefix of the packet bits of a key when these digits have arrived."""
    width, height = tile_size(frame, key[1])
    known_bits = prefix_of(width, width * height, digits)
    if known_bits is None:
        raise NoSuchPacket("no bits have such a code")
    return known_bits


class Arrived:
    """What has arrived of the packets of a frame, at first nothing."""

    def __init__(self, frame):
        self.frame = frame
        # An entry for each key, in the order of keys. The known prefixes are kept because
        # accepting a piece finds them anyway; without digits nothing is known.
        self._digits = [""] * frame.packets()
        self._prefixes = [""] * frame.packets()

    def digits(self, key):
        """Return the digits that have arrived of a packet."""
        check_key(self.frame, key)
        return self._digits[key_number(self.frame, key)]

    def accept(self, key, start, bits):
        """Accept a piece and return the number of new digits."""
        check_piece(self.frame, key, start, bits)
        number = key_number(self.frame, key)
        added = new_digits(self._digits[number], start, bits)
        if added != "":
            digits = self._digits[number] + added
            self._prefixes[number] = known_in_packet(self.frame, key, digits)
            self._digits[number] = digits
        return len(added)

    def packets(self):
        """Return the packets of which something has arrived, in the order of keys."""
        return [
            (key_at(self.frame, number), digits)
            for number, digits in enumerate(self._digits)
            if digits != ""
        ]

    def digit_count(self):
        """Return the number of all digits that have arrived."""
        return sum([len(digits) for digits in self._digits])

    def duplicate(self):
        """Return a new object with the same frame and digits."""
        twin = Arrived(self.frame)
        twin._digits = list(self._digits)
        twin._prefixes = list(self._prefixes)
        return twin

    def same(self, other):
        """Return True if the other object has the same frame and the same digits."""
        return self.frame.same(other.frame) and self.packets() == other.packets()

    def prefix(self, key):
        """Return the known prefix of the packet bits of a key, which is not checked."""
        return self._prefixes[key_number(self.frame, key)]

    def known_bit(self, key, place):
        """Return the packet bit at a place, 0 or 1, or None; the arguments are not checked."""
        prefix = self.prefix(key)
        return int(prefix[place]) if place < len(prefix) else None


def known_text(arrived, key):
    """Return what is known of the packet bits of a key, with a question mark for each other place."""
    check_key(arrived.frame, key)
    return marked(arrived.prefix(key), tile_places(arrived.frame, key[1]))
