"""The names and arguments that the interface lists, each defined in its own file."""

import importlib
import inspect
import unittest

FUNCTIONS = {
    "frames": """tile_corner(frame, tile) tile_size(frame, tile) tile_pixels(frame, tile)
        locate_pixel(frame, pixel) all_keys(frame) key_number(frame, key) key_at(frame, number)
        check_key(frame, key) check_pixel(frame, channel, pixel)""",
    "pictures": "fits_frame(frame, picture) blank(frame)",
    "texts": "check_text(text) read_text(text) write_text(picture)",
    "grays": """gray_bit(value, plane) value_of(grays) stored_bit(picture, channel, pixel, plane)
        packet_bits(frame, picture, key) picture_of(frame, packets)""",
    "contexts": """context(width, bits, place) shares(width, bits, place) interval(width, bits)
        check_width(width) check_bits(bits) check_code(code)""",
    "coder": """encode(width, bits) opens(width, code, bits) last_with_zero(bits, more)
        first_with_one(bits, more) known_prefix(width, count, code) known(width, count, code)
        sample(width, count, code, place, bit)""",
    "counting": """count_possible(width, count, code) first_possible(width, count, code)
        rank_among(width, code, bits) possible_at(width, count, code, number) binary(value, count)
        binary_value(bits)""",
    "packets": "packet_code(frame, picture, key) all_packets(frame, picture)",
    "arrived": "known_text(arrived, key)",
    "ranges": """gray_known(arrived, channel, pixel, plane) least_value(arrived, channel, pixel)
        greatest_value(arrived, channel, pixel) shown_value(arrived, channel, pixel)
        error_bound(arrived, channel, pixel) possible_values(arrived, channel, pixel)
        value_range(arrived, channel, pixel) greatest_error(arrived) exact_count(arrived)
        view(arrived, which)""",
    "witnesses": "witness(arrived, channel, pixel, end)",
    "numbering": """count_pictures(arrived) agrees(arrived, picture) number_of(arrived, picture)
        picture_at(arrived, number)""",
    "plans": """check_rectangle(rectangle) check_regions(regions) touches(frame, rectangle, tile)
        boost(frame, regions, tile) score(frame, regions, key) plan(frame, regions)
        bound(frame, regions, count)""",
    "needs": """needed(frame, rectangle, channel, planes) near(picture, planes) negative(picture)
        changed(frame, one, other)""",
    "crops": """check_tiles(frame, rectangle) crop_frame(frame, rectangle)
        crop(frame, rectangle, picture) paste(frame, rectangle, picture, part)""",
    "files": "check_pair(row) pack(bits) unpack(row, count) write_file(frame, packets)",
    "reading": "read_file(row)",
    "requests": """is_open(arrived, key) request(arrived, regions) check_requests(frame, requests)
        answer(frame, picture, requests, count) missing(arrived, picture)""",
    "remainder": """bits_needed(number) remainder_length(arrived)
        remainder(frame, picture, requests) finish(arrived, digits)""",
    "blocks": """encode_record(number, start, digits) decode_record(block)
        encode_header(generation, frame) decode_header(block)""",
    "keeper": """area_size(disk) area_start(disk, area) format_disk(disk, frame) newest_header(disk)
        open_keeper(disk)""",
}

CLASSES = {
    ("frames", "Frame"): """__init__(self, width, height, depth, channels, tile) across(self)
        down(self) tiles(self) pixels(self) packets(self) same(self, other)""",
    ("pictures", "Picture"): """__init__(self, width, height, depth, channels, values)
        value(self, channel, pixel) row(self, channel) rows(self) same(self, other)
        with_value(self, channel, pixel, value) framed(self, tile)""",
    ("arrived", "Arrived"): """__init__(self, frame) digits(self, key) accept(self, key, start, bits)
        packets(self) digit_count(self) duplicate(self) same(self, other)""",
    ("viewer", "Viewer"): """__init__(self, frame) receive(self, key, start, bits)
        receive_file(self, row) undo(self) packets(self) state(self)
        value_range(self, channel, pixel)""",
    ("source", "Source"): """__init__(self, picture, tile) shown(self)
        change(self, channel, pixel, value) paste(self, rectangle, part) undo(self)
        send(self, requests, count) send_remainder(self, requests) file_bytes(self, regions)""",
    ("network", "Network"): """__init__(self, picture, tile, ends) send(self, end, regions, count)
        letters(self) drop(self, number) duplicate(self, number) truncate(self, number, count)
        redirect(self, number, end) deliver(self, number) state(self, end) missing(self, end)
        shown(self)""",
    ("disks", "Disk"): """__init__(self, blocks) size(self) read(self, at) write(self, at, block)
        flush(self) pending_count(self) cut_count(self) cut_power(self, torn)
        schedule_cut(self, count, torn)""",
    ("keeper", "Keeper"): """receive(self, key, start, bits) sync(self) compact(self) state(self)
        free_blocks(self) value_range(self, channel, pixel)""",
    ("link", "Link"): """__init__(self, picture, tile, blocks) send(self, regions, count)
        letters(self) drop(self, number) duplicate(self, number) truncate(self, number, count)
        deliver(self, number) sync(self) compact(self) schedule_cut(self, count, torn)
        cut_power(self, torn) reopen(self) state(self) value_range(self, channel, pixel)
        shown(self)""",
}

CONSTANTS = {
    "frames": {"SIDE_MOST": 64, "VALUES_MOST": 3072, "DEPTH_MOST": 8, "TILE_MOST": 16},
    "texts": {"TEXT_MOST": 14000},
    "contexts": {"BITS_MOST": 256, "WIDTH_MOST": 16, "CODE_MOST": 400},
    "arrived": {"START_MOST": 65535, "DIGITS_MOST": 65535},
    "reading": {"FILE_MOST": 100000},
    "viewer": {"UNDO_MOST": 16},
    "network": {"ENDS_MOST": 4},
    "disks": {"BLOCK": 32, "BLOCKS_MOST": 400},
    "blocks": {"RECORD_MOST": 160},
}


def module(name):
    """Return a module of the package."""
    return importlib.import_module("packetpicture." + name)


def signatures(text):
    """Return tuples (name, list of the arguments) for a text of functions."""
    found = []
    for part in text.split(")")[:-1]:
        name, arguments = part.split("(")
        found.append((name.strip(), [word.strip() for word in arguments.split(",") if word.strip()]))
    return found


class Interface(unittest.TestCase):
    def test_functions(self):
        for name, text in FUNCTIONS.items():
            for function, arguments in signatures(text):
                found = getattr(module(name), function)
                self.assertTrue(inspect.isfunction(found), function)
                self.assertEqual(found.__module__, "packetpicture." + name)
                self.assertEqual(list(inspect.signature(found).parameters), arguments, function)

    def test_classes(self):
        for (name, word), text in CLASSES.items():
            found = getattr(module(name), word)
            self.assertEqual(found.__module__, "packetpicture." + name)
            for method, arguments in signatures(text):
                self.assertIn(method, vars(found))
                self.assertEqual(list(inspect.signature(vars(found)[method]).parameters), arguments, method)

    def test_constants(self):
        for name, table in CONSTANTS.items():
            for word, wanted in table.items():
                self.assertEqual(getattr(module(name), word), wanted)


if __name__ == "__main__":
    unittest.main()
