"""A network between a source and its viewers (points 61 and 62)."""

from packetpicture.checks import check_range
from packetpicture.errors import BitsAhead
from packetpicture.letters import check_letter, with_copy, with_other, with_shorter, without
from packetpicture.requests import missing, request
from packetpicture.source import Source
from packetpicture.viewer import Viewer

ENDS_MOST = 4


class Network:
    """One source, the viewers at its ends, and the letters that are on their way."""

    def __init__(self, picture, tile, ends):
        self._source = Source(picture, tile)
        check_range("ends", ends, 1, ENDS_MOST)
        self.frame = self._source.frame
        self._viewers = [Viewer(self.frame) for _ in range(ends)]
        self._letters = []

    def _check_end(self, end):
        """Raise OutOfRange if no viewer has this number."""
        check_range("end", end, 0, len(self._viewers) - 1)

    def send(self, end, regions, count):
        """Answer the request of a viewer with letters, and return how many there are."""
        pieces = self._source.send(request(self.state(end), regions), count)
        self._letters = self._letters + [(end, key, start, bits) for key, start, bits in pieces]
        return len(pieces)

    def letters(self):
        """Return the letters, the oldest first."""
        return list(self._letters)

    def drop(self, number):
        """Remove a letter."""
        self._letters = without(self._letters, number)

    def duplicate(self, number):
        """Put a copy of a letter at the end of the row."""
        self._letters = with_copy(self._letters, number)

    def truncate(self, number, count):
        """Keep only the first digits of a letter; without any it is removed."""
        self._letters = with_shorter(self._letters, number, count)

    def redirect(self, number, end):
        """Send a letter to another viewer; it keeps its position."""
        check_letter(self._letters, number)
        self._check_end(end)
        letter = self._letters[number]
        self._letters = with_other(self._letters, number, (end,) + letter[1:])

    def deliver(self, number):
        """Take a letter out of the row, let its viewer receive it, and return the number of new digits."""
        check_letter(self._letters, number)
        end, key, start, bits = self._letters[number]
        self._letters = without(self._letters, number)
        try:
            return self._viewers[end].receive(key, start, bits)
        except BitsAhead:
            return 0

    def state(self, end):
        """Return a new object with what has arrived at a viewer."""
        self._check_end(end)
        return self._viewers[end].state()

    def missing(self, end):
        """Return the number of digits that are missing at a viewer."""
        return missing(self.state(end), self._source.shown())

    def shown(self):
        """Return the picture of the source."""
        return self._source.shown()
