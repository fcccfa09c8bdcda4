"""Requests for what is missing, and their answers (points 54 to 56)."""

from packetpicture.arrived import START_MOST
from packetpicture.checks import check_range
from packetpicture.errors import PacketTwice
from packetpicture.frames import all_keys, check_key, tile_places
from packetpicture.packets import packet_code
from packetpicture.pictures import check_fits
from packetpicture.plans import plan

ANSWER_MOST = 1000000


def is_open(arrived, key):
    """Return True if some bits of the packet are not known."""
    check_key(arrived.frame, key)
    return len(arrived.prefix(key)) < tile_places(arrived.frame, key[1])


def request(arrived, regions):
    """Return all open packets in the order of the plan, each with the number of its digits."""
    keys = plan(arrived.frame, regions)
    return [(key, len(arrived.digits(key))) for key in keys if is_open(arrived, key)]


def check_requests(frame, requests):
    """Raise the error of the first entry that a request cannot have."""
    seen = {}
    for key, start in requests:
        check_key(frame, key)
        check_range("start", start, 0, START_MOST)
        if key in seen:
            raise PacketTwice("a request names a packet twice")
        seen[key] = True


def answer(frame, picture, requests, count):
    """Return the pieces of at most `count` digits that answer a request for a picture."""
    check_fits(frame, picture)
    check_requests(frame, requests)
    check_range("count", count, 0, ANSWER_MOST)
    pieces = []
    left = count
    for key, start in requests:
        # Once the digits are used up, only pieces without digits could follow.
        if left == 0:
            break
        code = packet_code(frame, picture, key)
        bits = code[start:start + left]
        if bits != "":
            pieces.append((key, start, bits))
        left -= len(bits)
    return pieces


def missing(arrived, picture):
    """Return how many digits of open packets of the picture, which agrees, have not arrived."""
    frame = arrived.frame
    return sum([
        len(packet_code(frame, picture, key)) - len(arrived.digits(key))
        for key in all_keys(frame)
        if is_open(arrived, key)
    ])
