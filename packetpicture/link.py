"""A link between a source and a keeper on a disk (point 73)."""

from packetpicture.disks import Disk
from packetpicture.errors import BitsAhead
from packetpicture.keeper import format_disk, open_keeper
from packetpicture.letters import check_letter, with_copy, with_shorter, without
from packetpicture.requests import request
from packetpicture.source import Source


class Link:
    """A source, a keeper on a disk, and the letters that are on their way."""

    def __init__(self, picture, tile, blocks):
        self._source = Source(picture, tile)
        self._disk = Disk(blocks)
        self.frame = self._source.frame
        format_disk(self._disk, self.frame)
        self._keeper = open_keeper(self._disk)
        self._letters = []

    def send(self, regions, count):
        """Answer the request of what the keeper has with letters, and return how many there are."""
        pieces = self._source.send(request(self._keeper.state(), regions), count)
        self._letters = self._letters + pieces
        return len(pieces)

    def letters(self):
        """Return the letters, the oldest first."""
        return list(self._letters)

    def drop(self, number):
        """Remove a letter."""
        self._letters = without(self._letters, number)

    def duplicate(self, number):
        """Put a copy of a letter at the end of the row."""
        self._letters = with_copy(self._letters, number)

    def truncate(self, number, count):
        """Keep only the first digits of a letter; without any it is removed."""
        self._letters = with_shorter(self._letters, number, count)

    def deliver(self, number):
        """Take a letter out of the row, let the keeper receive it, and return the number of new digits."""
        check_letter(self._letters, number)
        key, start, bits = self._letters[number]
        self._letters = without(self._letters, number)
        try:
            return self._keeper.receive(key, start, bits)
        except BitsAhead:
            return 0

    def sync(self):
        """Flush the disk."""
        self._keeper.sync()

    def compact(self):
        """Let the keeper write what it has to the other area, and return the number of records."""
        return self._keeper.compact()

    def schedule_cut(self, count, torn):
        """Cut the power at the next write or flush after `count` ones that succeed."""
        self._disk.schedule_cut(count, torn)

    def cut_power(self, torn):
        """Cut the power now."""
        self._disk.cut_power(torn)

    def reopen(self):
        """Open a new keeper on the disk and return the number of digits that it has."""
        self._keeper = open_keeper(self._disk)
        return self._keeper.state().digit_count()

    def state(self):
        """Return a new object with what the keeper has."""
        return self._keeper.state()

    def value_range(self, channel, pixel):
        """Return the tuple (least, greatest, shown, error bound, possible values) of a pixel."""
        return self._keeper.value_range(channel, pixel)

    def shown(self):
        """Return the picture of the source."""
        return self._source.shown()
