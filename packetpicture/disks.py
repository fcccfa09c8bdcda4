"""A disk whose power can be cut at any write (points 63 and 64)."""

from packetpicture.checks import check_range
from packetpicture.errors import OutOfRange, PowerCut

BLOCK = 32
BLOCKS_MOST = 400

BLOCKS_LEAST = 4
SCHEDULE_MOST = 100000


def check_block(block):
    """Raise OutOfRange unless this is a list of 32 integers from 0 to 255."""
    if not isinstance(block, list) or len(block) != BLOCK:
        raise OutOfRange("block")
    for byte in block:
        if not isinstance(byte, int) or byte < 0 or byte > 255:
            raise OutOfRange("block")


def check_torn(torn):
    """Raise OutOfRange unless each number is one of bytes of a block."""
    for count in torn:
        check_range("torn", count, 0, BLOCK)


class Disk:
    """Blocks of 32 bytes, and the writes that no flush has performed yet."""

    def __init__(self, blocks):
        check_range("blocks", blocks, BLOCKS_LEAST, BLOCKS_MOST)
        self._blocks = [[0] * BLOCK for _ in range(blocks)]
        # Tuples (index, block), in the order of the writes.
        self._pending = []
        self._cuts = 0
        # How many more writes and flushes succeed, or None without a schedule.
        self._left = None
        self._torn = []

    def size(self):
        """Return the number of blocks."""
        return len(self._blocks)

    def _check_at(self, at):
        """Raise OutOfRange if there is no such block."""
        check_range("at", at, 0, len(self._blocks) - 1)

    def read(self, at):
        """Return the bytes of a block, as last written."""
        self._check_at(at)
        found = self._blocks[at]
        for place, block in self._pending:
            if place == at:
                found = block
        return list(found)

    def write(self, at, block):
        """Write a block; the write is pending until the next flush."""
        self._check_at(at)
        check_block(block)
        self._use_power()
        self._pending.append((at, list(block)))

    def flush(self):
        """Perform all pending writes in order."""
        self._use_power()
        for at, block in self._pending:
            self._blocks[at] = block
        self._pending = []

    def _use_power(self):
        """Count a write or a flush, or cut the power if the schedule says so."""
        if self._left is None:
            return
        if self._left == 0:
            self._cut(self._torn)
            raise PowerCut("the power was cut")
        self._left -= 1

    def _cut(self, torn):
        """Cut the power: of each pending write only the first torn[i] bytes take effect."""
        for number, (at, block) in enumerate(self._pending):
            count = torn[number] if number < len(torn) else 0
            self._blocks[at] = block[:count] + self._blocks[at][count:]
        self._pending = []
        self._left = None
        self._cuts += 1

    def pending_count(self):
        """Return the number of pending writes."""
        return len(self._pending)

    def cut_count(self):
        """Return how often the power was cut."""
        return self._cuts

    def cut_power(self, torn):
        """Cut the power now."""
        check_torn(torn)
        self._cut(torn)

    def schedule_cut(self, count, torn):
        """Cut the power at the next write or flush after `count` ones that succeed."""
        check_range("count", count, 0, SCHEDULE_MOST)
        check_torn(torn)
        self._left = count
        self._torn = list(torn)
