"""Packetpicture: a picture codec that reports exactly what is known."""
