"""What the tests of keepers share: a disk that notes what is done, and the logs that are expected."""

from packetpicture.blocks import decode_header, decode_record, encode_record
from packetpicture.disks import Disk
from packetpicture.errors import PowerCut
from packetpicture.frames import Frame, key_at, key_number

ZEROS = [0] * 32


class NotedDisk(Disk):
    """A disk that notes its successful writes, as (index, block), and flushes, as the word.

    It also notes how many writes were pending when the power was cut last by a schedule.
    """

    def __init__(self, blocks):
        Disk.__init__(self, blocks)
        self.noted = []
        self.lost = None

    def write(self, at, block):
        self.perform((at, list(block)), Disk.write, at, block)

    def flush(self):
        self.perform("flush", Disk.flush)

    def perform(self, note, call, *arguments):
        """Perform a write or a flush, and note what happened."""
        pending = self.pending_count()
        try:
            call(self, *arguments)
        except PowerCut:
            self.lost = pending
            raise
        self.noted.append(note)

    def take_notes(self):
        """Return the notes since the last call."""
        notes, self.noted = self.noted, []
        return notes


def record(frame, key, start, digits):
    """Return the block of a record of a packet."""
    return encode_record(key_number(frame, key), start, digits)


def rows_of(start, digits):
    """Return tuples (start, digits) of at most 160 digits."""
    return [(start + at, digits[at:at + 160]) for at in range(0, len(digits), 160)]


def records_of(frame, packets):
    """Return the blocks of the records that compacting writes for these packets."""
    return [record(frame, key, start, part) for key, digits in packets for start, part in rows_of(0, digits)]


def log_of(disk):
    """Return the records (key, start, digits) of the current log of a disk, up to the first block without one.

    The current header is found as point 68 says, with both headers valid.
    """
    first, frame = decode_header(disk.read(0))
    second, _ = decode_header(disk.read(1))
    generation = second if second == (first + 1) % 256 else first
    size = (disk.size() - 2) // 2
    found = []
    for at in range(size):
        parts = decode_record(disk.read(2 + generation % 2 * size + at))
        if parts is None:
            break
        found.append((key_at(frame, parts[0]), *parts[1:]))
    return found


def digits_of_row(row):
    """Return a dict from each key to the digits that the records of a row have, which follow one another."""
    found = {}
    for key, start, digits in row:
        assert start == len(found.get(key, "")) and 1 <= len(digits) <= 160
        found[key] = found.get(key, "") + digits
    return found


def frames():
    """Return frames with one packet, with some, and with codes of more than 160 digits."""
    return [Frame(1, 1, 1, 1, 1), Frame(4, 2, 2, 1, 2), Frame(3, 2, 2, 3, 2), Frame(20, 18, 2, 1, 16)]
