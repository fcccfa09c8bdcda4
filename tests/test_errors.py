"""The section packetpicture/errors.py of the interface."""

import unittest

from packetpicture import errors

PLAIN = (
    "BitsAhead", "Contradiction", "NoSuchPacket", "NoFrame", "OtherFrame", "OtherKind",
    "OutsidePicture", "PacketTwice", "NoLetter", "KeeperFull", "NotKept", "PowerCut",
)


class Errors(unittest.TestCase):
    def test_base_class(self):
        self.assertEqual(errors.PictureError.__bases__, (ValueError,))

    def test_all_others_are_directly_below(self):
        for name in PLAIN + ("TextFault", "OutOfRange"):
            found = getattr(errors, name)
            self.assertEqual(found.__bases__, (errors.PictureError,), name)
            self.assertEqual(found.__module__, "packetpicture.errors")

    def test_plain_errors_take_one_string_and_have_no_fields(self):
        for name in PLAIN:
            error = getattr(errors, name)("why")
            self.assertEqual(str(error), "why")
            self.assertEqual(vars(error), {})

    def test_text_fault(self):
        error = errors.TextFault(3, 14, "width is 0")
        self.assertEqual((error.line, error.column, error.words), (3, 14, "width is 0"))
        self.assertIn("width is 0", str(error))

    def test_out_of_range(self):
        error = errors.OutOfRange("tile")
        self.assertEqual(error.name, "tile")
        self.assertIn("tile", str(error))


if __name__ == "__main__":
    unittest.main()
