"""Viewers: what has arrived, with undo (point 59)."""

from packetpicture.arrived import Arrived
from packetpicture.errors import NoFrame, OtherFrame
from packetpicture.ranges import value_range
from packetpicture.reading import read_file

UNDO_MOST = 16


def with_saved(saved, state):
    """Return the newest saved states, this one as the last."""
    rows = saved + [state]
    return rows[-UNDO_MOST:]


class Viewer:
    """What has arrived of a picture, and the newest states before it."""

    def __init__(self, frame):
        self.frame = frame
        # An object that stands here or is saved is never changed: each change makes a new one.
        self._arrived = Arrived(frame)
        self._saved = []

    def receive(self, key, start, bits):
        """Accept a piece and return the number of new digits."""
        return self._accept_all([(key, start, bits)])

    def receive_file(self, row):
        """Accept the packets of a file, as one change, and return the number of new digits."""
        frame, packets = read_file(row)[:2]
        if frame is None:
            raise NoFrame("no frame was read")
        if not frame.same(self.frame):
            raise OtherFrame("the file has another frame")
        return self._accept_all([(key, 0, bits) for key, bits in packets])

    def _accept_all(self, pieces):
        """Accept pieces as one change and return the number of new digits."""
        arrived = self._arrived.duplicate()
        count = 0
        for key, start, bits in pieces:
            count = count + arrived.accept(key, start, bits)
        if count > 0:
            self._saved = with_saved(self._saved, self._arrived)
            self._arrived = arrived
        return count

    def undo(self):
        """Return to the newest saved state, if there is one, and tell whether there was."""
        if len(self._saved) == 0:
            return False
        self._arrived = self._saved.pop()
        return True

    def packets(self):
        """Return the packets of which something has arrived, in the order of keys."""
        return self._arrived.packets()

    def state(self):
        """Return a new object with what has arrived."""
        return self._arrived.duplicate()

    def value_range(self, channel, pixel):
        """Return the tuple (least, greatest, shown, error bound, possible values) of a pixel."""
        return value_range(self._arrived, channel, pixel)
