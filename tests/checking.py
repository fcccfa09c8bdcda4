"""What several tests share."""

from packetpicture.errors import OutOfRange
from packetpicture.pictures import Picture

HUGE = 10 ** 5000


def out_of_range(test, name, function, *arguments):
    """Check that the call raises OutOfRange with this name."""
    with test.assertRaises(OutOfRange) as caught:
        function(*arguments)
    test.assertEqual(caught.exception.name, name)


def random_picture(chance, frame):
    """Return a picture that fits the frame, with values that the source of chance chooses."""
    rows = [[chance.randrange(2 ** frame.depth) for _ in range(frame.pixels())]
            for _ in range(frame.channels)]
    return Picture(frame.width, frame.height, frame.depth, frame.channels, rows)
