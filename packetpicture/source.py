"""Sources: a picture that can be changed, with undo, and that answers requests (point 60)."""

from packetpicture.crops import paste
from packetpicture.files import write_file
from packetpicture.needs import changed
from packetpicture.packets import packet_code
from packetpicture.plans import plan
from packetpicture.remainder import remainder
from packetpicture.requests import answer
from packetpicture.viewer import with_saved


class Source:
    """A picture with the side of its tiles, and the newest pictures before it."""

    def __init__(self, picture, tile):
        self.frame = picture.framed(tile)
        self._picture = picture
        self._saved = []

    def shown(self):
        """Return the picture."""
        return self._picture

    def change(self, channel, pixel, value):
        """Give a pixel another value in a channel and return the changed keys."""
        return self._become(self._picture.with_value(channel, pixel, value))

    def paste(self, rectangle, part):
        """Put a part in place of a rectangle of tiles and return the changed keys."""
        return self._become(paste(self.frame, rectangle, self._picture, part))

    def _become(self, picture):
        """Take another picture and return the changed keys."""
        keys = changed(self.frame, self._picture, picture)
        self._saved = with_saved(self._saved, self._picture)
        self._picture = picture
        return keys

    def undo(self):
        """Return to the newest saved picture, if there is one, and tell whether there was."""
        if len(self._saved) == 0:
            return False
        self._picture = self._saved.pop()
        return True

    def send(self, requests, count):
        """Return the pieces of at most `count` digits that answer a request."""
        return answer(self.frame, self._picture, requests, count)

    def send_remainder(self, requests):
        """Return the remainder for a request."""
        return remainder(self.frame, self._picture, requests)

    def file_bytes(self, regions):
        """Return the bytes of a file with all packets, in the order of the plan."""
        keys = plan(self.frame, regions)
        return write_file(self.frame, [(key, packet_code(self.frame, self._picture, key)) for key in keys])
