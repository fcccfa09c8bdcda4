"""What several tests share."""

from packetpicture.errors import OutOfRange

HUGE = 10 ** 5000


def out_of_range(test, name, function, *arguments):
    """Check that the call raises OutOfRange with this name."""
    with test.assertRaises(OutOfRange) as caught:
        function(*arguments)
    test.assertEqual(caught.exception.name, name)
