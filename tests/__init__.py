"""The tests of packetpicture."""
