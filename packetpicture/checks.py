"""The check that most arguments share."""

from packetpicture.errors import OutOfRange


def check_range(name, value, least, most):
    """Raise OutOfRange with this name unless the value is from least to most."""
    if value < least or value > most:
        raise OutOfRange(name)
