"""Crops and pastes of rectangles of tiles (point 47)."""

from packetpicture.errors import OutsidePicture
from packetpicture.frames import Frame
from packetpicture.pictures import Picture, check_fits
from packetpicture.plans import check_rectangle


def check_tiles(frame, rectangle):
    """Raise an error unless the rectangle of tiles lies in the frame."""
    check_rectangle(rectangle)
    left, top, width, height = rectangle
    if left + width > frame.across() or top + height > frame.down():
        raise OutsidePicture("the rectangle of tiles does not lie in the frame")


def crop_frame(frame, rectangle):
    """Return the frame of the crop."""
    check_tiles(frame, rectangle)
    left, top, width, height = rectangle
    side = frame.tile
    columns = min(width * side, frame.width - left * side)
    rows = min(height * side, frame.height - top * side)
    return Frame(columns, rows, frame.depth, frame.channels, side)


def crop_pixels(frame, rectangle, part):
    """Return the numbers in the whole picture of the pixels of a crop with the frame `part`."""
    left = rectangle[0] * frame.tile
    top = rectangle[1] * frame.tile
    return [
        row * frame.width + column
        for row in range(top, top + part.height)
        for column in range(left, left + part.width)
    ]


def crop(frame, rectangle, picture):
    """Return the picture of the pixels of the tiles in the rectangle."""
    part = crop_frame(frame, rectangle)
    check_fits(frame, picture)
    pixels = crop_pixels(frame, rectangle, part)
    rows = [[row[pixel] for pixel in pixels] for row in picture.rows()]
    return Picture(part.width, part.height, part.depth, part.channels, rows)


def paste(frame, rectangle, picture, part):
    """Return the picture with the part in place of the crop."""
    part_frame = crop_frame(frame, rectangle)
    check_fits(frame, picture)
    check_fits(part_frame, part)
    rows = picture.rows()
    for at, pixel in enumerate(crop_pixels(frame, rectangle, part_frame)):
        for channel in range(frame.channels):
            rows[channel][pixel] = part.value(channel, at)
    return Picture(frame.width, frame.height, frame.depth, frame.channels, rows)
