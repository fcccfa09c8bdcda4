"""Plans: which packets go first (points 40 to 42)."""

from packetpicture.checks import check_range
from packetpicture.errors import OutOfRange
from packetpicture.frames import SIDE_MOST, all_keys, key_at, tile_corner, tile_size

REGIONS_MOST = 16
BOOST_MOST = 16


def check_sides(name, left, top, width, height):
    """Raise OutOfRange with this name unless the four numbers are those of a rectangle."""
    check_range(name, left, 0, SIDE_MOST - 1)
    check_range(name, top, 0, SIDE_MOST - 1)
    check_range(name, width, 1, SIDE_MOST)
    check_range(name, height, 1, SIDE_MOST)


def check_rectangle(rectangle):
    """Raise OutOfRange unless the four numbers of the rectangle are within their limits."""
    left, top, width, height = rectangle
    check_sides("rectangle", left, top, width, height)


def check_regions(regions):
    """Raise OutOfRange if there are too many regions or a number of one is beyond its limits."""
    if len(regions) > REGIONS_MOST:
        raise OutOfRange("regions")
    for left, top, width, height, worth in regions:
        check_sides("regions", left, top, width, height)
        check_range("regions", worth, 0, BOOST_MOST)


def touches(frame, rectangle, tile):
    """Return True if a pixel of the tile is in the rectangle."""
    left, top, width, height = rectangle
    tile_left, tile_top = tile_corner(frame, tile)
    tile_width, tile_height = tile_size(frame, tile)
    beside = tile_left + tile_width <= left or left + width <= tile_left
    above_or_below = tile_top + tile_height <= top or top + height <= tile_top
    return not beside and not above_or_below


def boost(frame, regions, tile):
    """Return the largest boost of all regions that touch the tile, or 0 if none does."""
    return max([region[4] for region in regions if touches(frame, region[:4], tile)], default=0)


def score(frame, regions, key):
    """Return the plane of a packet plus the boost of its tile."""
    return key[2] + boost(frame, regions, key[1])


def all_scores(frame, regions):
    """Return the scores of all keys, in the order of keys."""
    # A tile has many keys, so its boost is found only once.
    boosts = [boost(frame, regions, tile) for tile in range(frame.tiles())]
    return [plane + boosts[tile] for _, tile, plane in all_keys(frame)]


def plan(frame, regions):
    """Return all keys with descending scores; those with the same score keep the order of keys."""
    check_regions(regions)
    rows = [(-points, number) for number, points in enumerate(all_scores(frame, regions))]
    return [key_at(frame, number) for _, number in sorted(rows)]


def bound(frame, regions, count):
    """Return the bound of the plan after its first `count` packets."""
    check_regions(regions)
    check_range("count", count, 0, frame.packets())
    if count == frame.packets():
        return 0
    points = sorted(all_scores(frame, regions), reverse=True)
    return 1 << points[count]
