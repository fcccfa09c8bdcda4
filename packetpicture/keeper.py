"""Keepers: what has arrived, stored on a disk (points 65 to 72)."""

from packetpicture.arrived import Arrived
from packetpicture.blocks import (
    RECORD_MOST,
    decode_header,
    decode_record,
    encode_header,
    encode_record,
)
from packetpicture.disks import BLOCK
from packetpicture.errors import BitsAhead, Contradiction, KeeperFull, NoSuchPacket, NotKept
from packetpicture.frames import key_at, key_number
from packetpicture.ranges import value_range

HEADERS = 2
GENERATIONS = 256


def area_size(disk):
    """Return the number of blocks of an area."""
    return (disk.size() - HEADERS) // 2


def area_start(disk, area):
    """Return the number of the first block of an area."""
    return HEADERS + area * area_size(disk)


def write_zeros(disk, start, count):
    """Write zeros to `count` blocks from `start` on."""
    for at in range(start, start + count):
        disk.write(at, [0] * BLOCK)


def write_header(disk, generation, frame):
    """Write the header of a generation to its block."""
    disk.write(generation % HEADERS, encode_header(generation, frame))


def write_log(disk, start, records):
    """Write the blocks of records from `start` on."""
    for at, record in enumerate(records):
        disk.write(start + at, record)


def format_disk(disk, frame):
    """Make an empty log for a frame."""
    write_zeros(disk, 0, HEADERS)
    write_zeros(disk, area_start(disk, 0), area_size(disk))
    disk.flush()
    write_header(disk, 0, frame)
    write_header(disk, GENERATIONS - 1, frame)
    disk.flush()


def next_generation(generation):
    """Return the generation after this one."""
    return (generation + 1) % GENERATIONS


def newest_header(disk):
    """Return (generation, frame) of the current header, or None if neither header is valid."""
    first = decode_header(disk.read(0))
    second = decode_header(disk.read(1))
    if first is None or second is None:
        return second if first is None else first
    return second if second[0] == next_generation(first[0]) else first


def log_records(frame, key, digits, start):
    """Return the blocks of the records of the digits of a packet from `start` on."""
    number = key_number(frame, key)
    return [
        encode_record(number, at, digits[at:at + RECORD_MOST])
        for at in range(start, len(digits), RECORD_MOST)
    ]


def read_log(disk, area, frame):
    """Return what has arrived according to the log in an area, and the number of its records."""
    arrived = Arrived(frame)
    start = area_start(disk, area)
    for used in range(area_size(disk)):
        record = decode_record(disk.read(start + used))
        if record is None or record[0] >= frame.packets():
            return arrived, used
        number, first, digits = record
        try:
            arrived.accept(key_at(frame, number), first, digits)
        except (BitsAhead, Contradiction, NoSuchPacket):
            return arrived, used
    return arrived, area_size(disk)


def open_keeper(disk):
    """Return a keeper with what the disk holds."""
    header = newest_header(disk)
    if header is None:
        raise NotKept("neither header is valid")
    generation, frame = header
    area = generation % 2
    arrived, used = read_log(disk, area, frame)
    write_zeros(disk, area_start(disk, area) + used, area_size(disk) - used)
    disk.flush()
    return Keeper(disk, generation, arrived, used)


class Keeper:
    """What has arrived for one frame, valid until the power of its disk is cut."""

    def __init__(self, disk, generation, arrived, used):
        self.frame = arrived.frame
        self._disk = disk
        self._cuts = disk.cut_count()
        self._generation = generation
        # The object is never changed: a piece makes a new one, which a failed write discards.
        self._arrived = arrived
        # The number of records in the current area.
        self._used = used

    def _check_power(self):
        """Raise NotKept if the power was cut since the keeper was opened."""
        if self._disk.cut_count() != self._cuts:
            raise NotKept("the power was cut")

    def receive(self, key, start, bits):
        """Accept a piece, write its new digits to the log, and return how many there are."""
        self._check_power()
        arrived = self._arrived.duplicate()
        count = arrived.accept(key, start, bits)
        digits = arrived.digits(key)
        records = log_records(self.frame, key, digits, len(digits) - count)
        if len(records) > self.free_blocks():
            self.compact()
        if len(records) > self.free_blocks():
            raise KeeperFull("too few blocks are left")
        write_log(self._disk, area_start(self._disk, self._generation % 2) + self._used, records)
        self._arrived = arrived
        self._used += len(records)
        return count

    def sync(self):
        """Flush the disk."""
        self._check_power()
        self._disk.flush()

    def compact(self):
        """Write what has arrived to the other area, and return the number of records."""
        self._check_power()
        generation = next_generation(self._generation)
        start = area_start(self._disk, generation % 2)
        records = []
        for key, digits in self._arrived.packets():
            records.extend(log_records(self.frame, key, digits, 0))
        write_zeros(self._disk, start, area_size(self._disk))
        self._disk.flush()
        write_log(self._disk, start, records)
        self._disk.flush()
        write_header(self._disk, generation, self.frame)
        self._disk.flush()
        self._generation = generation
        self._used = len(records)
        return len(records)

    def state(self):
        """Return a new object with what the keeper has."""
        return self._arrived.duplicate()

    def free_blocks(self):
        """Return the number of blocks of the current area after the last record."""
        return area_size(self._disk) - self._used

    def value_range(self, channel, pixel):
        """Return the tuple (least, greatest, shown, error bound, possible values) of a pixel."""
        return value_range(self._arrived, channel, pixel)
