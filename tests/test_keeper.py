"""Points 65 to 71: keepers, on a disk whose power is not cut, and what they do after a cut."""

import random
import unittest

from packetpicture.blocks import encode_header, encode_record
from packetpicture.disks import Disk
from packetpicture.errors import (
    BitsAhead, Contradiction, KeeperFull, NoSuchPacket, NotKept, PowerCut,
)
from packetpicture.frames import Frame, all_keys
from packetpicture.keeper import area_size, area_start, format_disk, newest_header, open_keeper
from packetpicture.packets import all_packets
from packetpicture.ranges import value_range
from tests.agreeing import all_whole, places
from tests.checking import HUGE, out_of_range, random_picture
from tests.kept import ZEROS, NotedDisk, frames, log_of, record, records_of, rows_of
from tests.test_requests import LOWER, UPPER, wrong_keys

SMALL = Frame(2, 2, 2, 1, 2)


def kept(frame, blocks):
    """Return (disk, keeper) of a disk that was formatted for a frame."""
    disk = NotedDisk(blocks)
    format_disk(disk, frame)
    keeper = open_keeper(disk)
    disk.take_notes()
    return disk, keeper


def with_log(frame, blocks, rows, area=0):
    """Return a formatted disk with these blocks from the start of an area on."""
    disk = NotedDisk(blocks)
    format_disk(disk, frame)
    for at, block in enumerate(rows):
        disk.write(area_start(disk, area) + at, block)
    disk.flush()
    disk.take_notes()
    return disk


def long_packet(chance):
    """Return (frame, digits): a frame with one packet of more than 200 digits, and these."""
    frame = Frame(16, 16, 1, 1, 16)
    digits = all_packets(frame, random_picture(chance, frame))[0][1]
    assert len(digits) > 200
    return frame, digits


class Areas(unittest.TestCase):
    def test_even_and_odd_numbers_of_blocks(self):
        for blocks, size in ((4, 1), (5, 1), (6, 2), (7, 2), (64, 31), (65, 31), (399, 198), (400, 199)):
            disk = Disk(blocks)
            self.assertEqual(area_size(disk), size)
            self.assertEqual([area_start(disk, area) for area in (0, 1)], [2, 2 + size])


class Format(unittest.TestCase):
    def test_the_writes_and_flushes_in_order(self):
        for blocks in (4, 5, 10, 11, 400):
            for frame in frames():
                disk = NotedDisk(blocks)
                self.assertIsNone(format_disk(disk, frame))
                size = (blocks - 2) // 2
                wanted = [(at, ZEROS) for at in range(2 + size)] + ["flush"]
                wanted += [(0, encode_header(0, frame)), (1, encode_header(255, frame)), "flush"]
                self.assertEqual(disk.noted, wanted)
                self.assertEqual(disk.pending_count(), 0)

    def test_a_disk_that_was_used(self):
        disk = Disk(7)
        for at in range(7):
            disk.write(at, [75] * 32)
        format_disk(disk, SMALL)
        self.assertEqual([disk.read(at) for at in range(2, 7)], [ZEROS] * 2 + [[75] * 32] * 3)
        keeper = open_keeper(disk)
        self.assertEqual(keeper.state().packets(), [])
        self.assertEqual(keeper.free_blocks(), 2)
        self.assertTrue(keeper.frame.same(SMALL))

    def test_power_cuts(self):
        steps = 2 + 4 + 1 + 2 + 1
        for count in range(steps):
            disk = Disk(10)
            disk.schedule_cut(count, [])
            with self.assertRaises(PowerCut):
                format_disk(disk, SMALL)
        disk.schedule_cut(steps, [])
        format_disk(disk, SMALL)


class NewestHeader(unittest.TestCase):
    def disk(self, first, second):
        """Return a disk with these blocks as its headers."""
        disk = Disk(6)
        disk.write(0, first)
        disk.write(1, second)
        return disk

    def check(self, first, second, generation, frame):
        """Check which header is the current one."""
        found = newest_header(self.disk(first, second))
        self.assertIs(type(found), tuple)
        self.assertEqual(found[0], generation)
        self.assertTrue(found[1].same(frame))

    def test_each_pair_of_generations(self):
        one, other = SMALL, Frame(4, 2, 2, 1, 2)
        for first in (0, 1, 2, 7, 8, 127, 128, 253, 254, 255):
            for second in {0, 1, 2, 6, 7, 8, 9, 129, 253, 254, 255, first}:
                second_is_newer = second == (first + 1) % 256
                self.check(encode_header(first, one), encode_header(second, other),
                           second if second_is_newer else first, other if second_is_newer else one)

    def test_one_valid_header(self):
        for generation in (0, 1, 254, 255):
            header = encode_header(generation, SMALL)
            for wrong in (ZEROS, [72] * 32, header[:31] + [0], [0] + header[1:], encode_record(0, 0, "1")):
                self.check(header, wrong, generation, SMALL)
                self.check(wrong, header, generation, SMALL)

    def test_none(self):
        header = encode_header(3, SMALL)
        for first in (ZEROS, [72] * 32, header[:31] + [0]):
            for second in (ZEROS, [0] + header[1:]):
                disk = self.disk(first, second)
                self.assertIsNone(newest_header(disk))
                with self.assertRaises(NotKept):
                    open_keeper(disk)
                self.assertEqual(disk.pending_count(), 2)

    def test_a_new_disk_is_not_kept(self):
        self.assertIsNone(newest_header(Disk(4)))
        with self.assertRaises(NotKept):
            open_keeper(Disk(400))


class Open(unittest.TestCase):
    def check(self, disk, packets, used, area=0):
        """Check what a keeper has after opening, and what opening writes; opening again is the same."""
        size, start = area_size(disk), area_start(disk, area)
        for _ in range(2):
            keeper = open_keeper(disk)
            self.assertEqual(keeper.state().packets(), packets)
            self.assertEqual(keeper.free_blocks(), size - used)
            zeros = [(at, ZEROS) for at in range(start + used, start + size)]
            self.assertEqual(disk.take_notes(), zeros + ["flush"])
            self.assertEqual(disk.pending_count(), 0)
        return keeper

    def right(self):
        """Return the blocks of four records of the frame."""
        return [record(SMALL, UPPER, 0, "00"), record(SMALL, LOWER, 0, "01"), record(SMALL, UPPER, 2, "1"),
                record(SMALL, LOWER, 1, "10")]

    def test_an_empty_log(self):
        self.check(with_log(SMALL, 12, []), [], 0)

    def test_records(self):
        for used, packets in ((1, [(UPPER, "00")]), (2, [(UPPER, "00"), (LOWER, "01")]),
                              (3, [(UPPER, "001"), (LOWER, "01")]), (4, [(UPPER, "001"), (LOWER, "010")])):
            self.check(with_log(SMALL, 12, self.right()[:used]), packets, used)

    def test_a_full_log(self):
        disk = with_log(SMALL, 10, self.right())
        keeper = self.check(disk, [(UPPER, "001"), (LOWER, "010")], 4)
        self.assertEqual(keeper.free_blocks(), 0)

    def test_a_record_that_brings_nothing_new(self):
        rows = self.right()[:2] * 2 + [record(SMALL, UPPER, 1, "0")]
        self.check(with_log(SMALL, 16, rows), [(UPPER, "00"), (LOWER, "01")], 5)

    def test_the_first_block_that_ends_the_log(self):
        right = self.right()
        wrong = {
            "no record": ZEROS,
            "another first byte": [72] + right[2][1:],
            "another last byte": right[2][:31] + [0],
            "no digits": right[2][:5] + [0] + right[2][6:],
            "too many digits": right[2][:5] + [161] + right[2][6:],
            "no key": encode_record(2, 0, "0"),
            "no key by far": encode_record(65535, 0, "0"),
            "digits ahead are missing": record(SMALL, UPPER, 3, "1"),
            "another digit": record(SMALL, UPPER, 1, "1"),
            "no such packet": record(SMALL, UPPER, 2, "00"),
            "too long": record(SMALL, UPPER, 2, "1" * 160),
        }
        for at in range(3):
            for words, block in wrong.items():
                # The records behind it are right, but they are not read any more.
                with self.subTest(words=words, at=at):
                    disk = with_log(SMALL, 14, right[:at] + [block] + right[:2])
                    packets = [[], [(UPPER, "00")], [(UPPER, "00"), (LOWER, "01")]][at]
                    self.check(disk, packets, at)
                    self.assertEqual([disk.read(place) for place in range(2 + at, 8)], [ZEROS] * (6 - at))

    def test_only_the_current_area_is_read_and_cleared(self):
        right = self.right()
        disk = with_log(SMALL, 13, [ZEROS] * 5 + right, area=0)
        self.check(disk, [], 0)
        self.assertEqual([disk.read(at) for at in range(7, 12)], right + [ZEROS])
        disk.write(1, encode_header(1, SMALL))
        disk.flush()
        disk.take_notes()
        self.check(disk, [(UPPER, "001"), (LOWER, "010")], 4, area=1)
        # The block behind the last area is never used.
        disk.write(12, [75] * 32)
        self.assertEqual(open_keeper(disk).state().digit_count(), 6)
        self.assertEqual(disk.read(12), [75] * 32)

    def test_the_frame_of_the_current_header(self):
        disk = with_log(SMALL, 8, [])
        other = Frame(4, 2, 2, 1, 2)
        disk.write(1, encode_header(1, other))
        self.assertTrue(open_keeper(disk).frame.same(other))
        disk.write(1, encode_header(2, other))
        self.assertTrue(open_keeper(disk).frame.same(SMALL))

    def test_power_cuts(self):
        for used in range(5):
            steps = 4 - used + 1
            for count in range(steps):
                disk = with_log(SMALL, 10, self.right()[:used])
                disk.schedule_cut(count, [])
                with self.assertRaises(PowerCut):
                    open_keeper(disk)
                self.assertEqual(open_keeper(disk).free_blocks(), 4 - used)
            disk.schedule_cut(steps, [])
            open_keeper(disk)


class Receive(unittest.TestCase):
    def test_the_number_of_new_digits(self):
        disk, keeper = kept(SMALL, 40)
        for key, start, bits, added, digits in (
            (UPPER, 0, "0", 1, "0"), (UPPER, 0, "00", 1, "0"), (UPPER, 0, "00", 0, ""), (UPPER, 2, "", 0, ""),
            (UPPER, 1, "0111", 3, "111"), (LOWER, 0, "010", 3, "010"), (LOWER, 3, "", 0, ""),
        ):
            before, free = keeper.state(), keeper.free_blocks()
            self.assertEqual(keeper.receive(key, start, bits), added)
            first = len(before.digits(key))
            wanted = [(2 + 19 - free, record(SMALL, key, first, digits))] if digits else []
            # The writes are not flushed.
            self.assertEqual(disk.take_notes(), wanted)
            self.assertEqual(keeper.free_blocks(), free - len(wanted))
        self.assertEqual(keeper.state().packets(), [(UPPER, "00111"), (LOWER, "010")])
        self.assertEqual(disk.pending_count(), 4)
        self.assertIsNone(keeper.sync())
        self.assertEqual(disk.take_notes(), ["flush"])

    def test_pieces_of_many_digits(self):
        chance = random.Random(69)
        frame, code = long_packet(chance)
        key = (0, 0, 0)
        for start in (0, 1, 7):
            for count in (1, 159, 160, 161, 200, len(code) - start):
                disk, keeper = kept(frame, 40)
                if start:
                    keeper.receive(key, 0, code[:start])
                    disk.take_notes()
                # A part of the piece may be there already.
                self.assertEqual(keeper.receive(key, 0, code[:start + count]), count)
                rows = rows_of(start, code[start:start + count])
                self.assertEqual([len(part) for _, part in rows], [160] * (count // 160) + [count % 160] * (count % 160 > 0))
                at = 3 if start else 2
                wanted = [(at + place, record(frame, key, *row)) for place, row in enumerate(rows)]
                self.assertEqual(disk.take_notes(), wanted)
                self.assertEqual(log_of(disk)[-len(rows):], [(key, *row) for row in rows])
                self.assertEqual(open_keeper(disk).state().packets(), [(key, code[:start + count])])

    def test_no_packet_has_320_digits(self):
        frame, code = long_packet(random.Random(70))
        disk, keeper = kept(frame, 40)
        for digits in (code + "0" * (320 - len(code)), "0" * 320, "1" * 320, "01" * 160):
            with self.assertRaises(NoSuchPacket):
                keeper.receive((0, 0, 0), 0, digits)
        self.assertEqual(disk.take_notes(), [])

    def test_each_error_in_order(self):
        disk, keeper = kept(SMALL, 4)
        keeper.receive(UPPER, 0, "00")
        disk.take_notes()
        for name, key in wrong_keys(SMALL):
            out_of_range(self, name, keeper.receive, key, -1, "1")
        for start in (-1, 65536, HUGE, -HUGE):
            out_of_range(self, "start", keeper.receive, UPPER, start, "0" * 65536)
        out_of_range(self, "bits", keeper.receive, UPPER, 9, "0" * 65536)
        for error, key, start, bits in ((BitsAhead, UPPER, 3, "1"), (BitsAhead, LOWER, 1, "1"),
                                        (Contradiction, UPPER, 1, "11"), (NoSuchPacket, UPPER, 2, "00")):
            with self.assertRaises(error):
                keeper.receive(key, start, bits)
        self.assertEqual(disk.take_notes(), [])
        with self.assertRaises(KeeperFull):
            keeper.receive(LOWER, 0, "0")
        self.assertEqual(keeper.state().packets(), [(UPPER, "00")])

    def test_value_range_and_state(self):
        _, keeper = kept(SMALL, 10)
        keeper.receive(UPPER, 0, "00")
        keeper.receive(LOWER, 0, "010")
        self.assertEqual(keeper.value_range(0, 3), (0, 3, 1, 2, [0, 1, 2, 3]))
        before = keeper.state()
        keeper.state().accept(UPPER, 2, "1")
        self.assertEqual(keeper.state().packets(), [(UPPER, "00"), (LOWER, "010")])
        keeper.receive(UPPER, 2, "1")
        self.assertEqual(before.packets(), [(UPPER, "00"), (LOWER, "010")])
        self.assertEqual(keeper.value_range(0, 3)[0], 2)
        for channel in (-1, 1, HUGE):
            out_of_range(self, "channel", keeper.value_range, channel, 4)
        for pixel in (-1, 4, HUGE):
            out_of_range(self, "pixel", keeper.value_range, 0, pixel)


class Full(unittest.TestCase):
    def compaction(self, disk, frame, packets, generation):
        """Return the notes of a compaction to a generation."""
        size = area_size(disk)
        start = 2 + generation % 2 * size
        notes = [(start + at, ZEROS) for at in range(size)] + ["flush"]
        notes += [(start + at, block) for at, block in enumerate(records_of(frame, packets))] + ["flush"]
        return notes + [(generation % 2, encode_header(generation, frame)), "flush"]

    def test_compaction_when_the_area_is_full(self):
        disk, keeper = kept(SMALL, 8)
        for at, digit in enumerate("001"):
            keeper.receive(UPPER, at, digit)
        self.assertEqual(keeper.free_blocks(), 0)
        self.assertNotIn("flush", disk.take_notes())
        self.assertEqual(keeper.receive(UPPER, 0, "001"), 0)
        self.assertEqual(disk.take_notes(), [])
        self.assertEqual(keeper.receive(LOWER, 0, "01"), 2)
        wanted = self.compaction(disk, SMALL, [(UPPER, "001")], 1)
        self.assertEqual(disk.take_notes(), wanted + [(6, record(SMALL, LOWER, 0, "01"))])
        self.assertEqual(keeper.free_blocks(), 1)
        self.assertEqual(keeper.state().packets(), [(UPPER, "001"), (LOWER, "01")])

    def test_full(self):
        disk, keeper = kept(SMALL, 5)
        keeper.receive(LOWER, 0, "01")
        disk.take_notes()
        for generation in (1, 2, 3):
            with self.assertRaises(KeeperFull):
                keeper.receive(UPPER, 0, "00")
            # The compaction stays, and nothing of the piece is taken.
            self.assertEqual(disk.take_notes(), self.compaction(disk, SMALL, [(LOWER, "01")], generation))
            self.assertEqual(newest_header(disk)[0], generation)
            self.assertEqual(keeper.state().packets(), [(LOWER, "01")])
            self.assertEqual(keeper.free_blocks(), 0)
        self.assertEqual(keeper.receive(LOWER, 0, "0"), 0)
        self.assertEqual(open_keeper(disk).state().packets(), [(LOWER, "01")])

    def test_a_piece_that_would_fit_in_part(self):
        frame, code = long_packet(random.Random(71))
        disk, keeper = kept(frame, 4)
        with self.assertRaises(KeeperFull):
            keeper.receive((0, 0, 0), 0, code[:161])
        self.assertEqual(disk.take_notes(), self.compaction(disk, frame, [], 1))
        self.assertEqual(keeper.state().packets(), [])
        self.assertEqual(keeper.free_blocks(), 1)
        self.assertEqual(keeper.receive((0, 0, 0), 0, code[:160]), 160)
        with self.assertRaises(KeeperFull):
            keeper.receive((0, 0, 0), 160, code[160:])

    def test_the_last_blocks(self):
        frame, code = long_packet(random.Random(72))
        disk, keeper = kept(frame, 8)
        keeper.receive((0, 0, 0), 0, code[:1])
        disk.take_notes()
        # Two records fit exactly, so nothing is compacted.
        self.assertEqual(keeper.receive((0, 0, 0), 1, code[1:]), len(code) - 1)
        self.assertNotIn("flush", disk.take_notes())
        self.assertEqual(keeper.free_blocks(), 0)
        self.assertEqual(keeper.compact(), 2)


class Compact(unittest.TestCase):
    def test_any_logs(self):
        chance = random.Random(73)
        for frame in frames():
            codes = dict(all_packets(frame, random_picture(chance, frame)))
            disk, keeper = kept(frame, 400)
            for _ in range(100):
                key = chance.choice(list(codes))
                start = len(keeper.state().digits(key))
                keeper.receive(key, start, codes[key][start:start + chance.choice((1, 3, 400))])
            before, state = len(log_of(disk)), keeper.state()
            disk.take_notes()
            records = records_of(frame, state.packets())
            self.assertEqual(keeper.compact(), len(records))
            self.assertLessEqual(len(records), before)
            self.assertEqual(disk.take_notes(), Full().compaction(disk, frame, state.packets(), 1))
            self.assertEqual(keeper.free_blocks(), 199 - len(records))
            self.assertTrue(keeper.state().same(state))
            again = open_keeper(disk)
            self.assertTrue(again.state().same(state))
            self.assertEqual(again.free_blocks(), 199 - len(records))

    def test_the_order_of_keys(self):
        frame = Frame(3, 2, 2, 3, 2)
        codes = dict(all_packets(frame, random_picture(random.Random(74), frame)))
        disk, keeper = kept(frame, 60)
        for key in all_keys(frame)[::-1]:
            keeper.receive(key, 0, codes[key])
        self.assertEqual(keeper.compact(), frame.packets())
        self.assertEqual(log_of(disk), [(key, 0, codes[key]) for key in all_keys(frame)])

    def test_nothing_arrived(self):
        disk, keeper = kept(SMALL, 6)
        self.assertEqual(keeper.compact(), 0)
        self.assertEqual(disk.take_notes(), Full().compaction(disk, SMALL, [], 1))
        self.assertEqual(keeper.free_blocks(), 2)

    def test_the_generations(self):
        disk, keeper = kept(SMALL, 6)
        keeper.receive(UPPER, 0, "00")
        for generation in list(range(1, 256)) + [0, 1, 2]:
            self.assertEqual(keeper.compact(), 1)
            self.assertEqual(newest_header(disk)[0], generation)
            self.assertEqual(disk.read(generation % 2), encode_header(generation, SMALL))
            self.assertEqual(disk.read(area_start(disk, generation % 2)), record(SMALL, UPPER, 0, "00"))
            if generation in (0, 1, 254, 255):
                keeper = open_keeper(disk)
                self.assertEqual(keeper.state().packets(), [(UPPER, "00")])

    def test_pieces_after_a_compaction(self):
        disk, keeper = kept(SMALL, 10)
        keeper.receive(UPPER, 0, "0")
        keeper.receive(UPPER, 1, "0")
        keeper.compact()
        keeper.receive(LOWER, 0, "010")
        self.assertEqual(disk.read(7), record(SMALL, LOWER, 0, "010"))
        keeper.receive(UPPER, 2, "1")
        again = open_keeper(disk)
        self.assertEqual(again.state().packets(), [(UPPER, "001"), (LOWER, "010")])
        self.assertEqual(again.free_blocks(), 1)

    def test_pieces_after_each_of_several_compactions(self):
        frame, code = long_packet(random.Random(76))
        key = (0, 0, 0)
        disk, keeper = kept(frame, 10)
        for at, digit in enumerate(code[:20]):
            self.assertEqual(keeper.receive(key, at, digit), 1)
            # The first record of the area holds all earlier digits.
            place = area_start(disk, at % 2) + (1 if at else 0)
            self.assertEqual(disk.take_notes(), [(place, record(frame, key, at, digit))])
            self.assertEqual(keeper.compact(), 1)
            self.assertEqual(log_of(disk), [(key, 0, code[:at + 1])])
            disk.take_notes()

    def test_steps_of_a_compaction(self):
        # The zeros, a flush, the records, a flush, the header, a flush.
        steps = 4 + 1 + 2 + 1 + 1 + 1
        for count in range(steps):
            disk, keeper = self.two_records(count)
            with self.assertRaises(PowerCut):
                keeper.compact()
            self.assertEqual(keeper.free_blocks(), 1)
            self.assertEqual(open_keeper(disk).state().packets(), [(UPPER, "00"), (LOWER, "01")])
        disk, keeper = self.two_records(steps)
        self.assertEqual(keeper.compact(), 2)
        self.assertEqual(keeper.free_blocks(), 2)

    def two_records(self, count):
        """Return (disk, keeper) with two packets in three records, and a cut after so many steps."""
        disk, keeper = kept(SMALL, 10)
        for piece in ((UPPER, 0, "00"), (LOWER, 0, "0"), (LOWER, 1, "1")):
            keeper.receive(*piece)
        keeper.sync()
        disk.schedule_cut(count, [])
        return disk, keeper


class AfterACut(unittest.TestCase):
    def check(self, keeper, packets, free):
        """Check that a keeper is not valid any more, and what it still reports."""
        for call in (lambda: keeper.receive(UPPER, 0, "0"), lambda: keeper.receive((9, 9, 9), -1, ""),
                     lambda: keeper.receive(UPPER, 0, ""), keeper.sync, keeper.compact):
            with self.assertRaises(NotKept):
                call()
        self.assertEqual(keeper.state().packets(), packets)
        self.assertEqual(keeper.free_blocks(), free)
        state = all_whole(keeper.frame, packets)
        for place in places(keeper.frame):
            self.assertEqual(keeper.value_range(*place), value_range(state, *place))

    def test_a_cut_from_outside(self):
        disk, keeper = kept(SMALL, 10)
        keeper.receive(UPPER, 0, "00")
        keeper.receive(LOWER, 0, "01")
        disk.cut_power([])
        disk.take_notes()
        self.check(keeper, [(UPPER, "00"), (LOWER, "01")], 2)
        self.assertEqual(disk.take_notes(), [])
        again = open_keeper(disk)
        self.assertEqual(again.state().packets(), [])
        self.assertEqual(again.receive(LOWER, 0, "1"), 1)
        # The old keeper is still not valid.
        self.check(keeper, [(UPPER, "00"), (LOWER, "01")], 2)

    def test_a_cut_in_a_call(self):
        for call in (lambda keeper: keeper.receive(LOWER, 0, "01"), lambda keeper: keeper.sync(),
                     lambda keeper: keeper.compact()):
            disk, keeper = kept(SMALL, 10)
            keeper.receive(UPPER, 0, "00")
            disk.schedule_cut(0, [32])
            with self.assertRaises(PowerCut):
                call(keeper)
            self.check(keeper, [(UPPER, "00")], 3)
            self.assertEqual(open_keeper(disk).state().packets(), [(UPPER, "00")])

    def test_a_cut_between_two_records(self):
        frame, code = long_packet(random.Random(75))
        key = (0, 0, 0)
        for torn, many in (([], 0), ([31], 0), ([32], 160)):
            disk, keeper = kept(frame, 10)
            disk.schedule_cut(1, torn)
            with self.assertRaises(PowerCut):
                keeper.receive(key, 0, code)
            self.assertEqual(keeper.state().packets(), [])
            self.assertEqual(keeper.free_blocks(), 4)
            self.assertEqual(open_keeper(disk).state().digits(key), code[:many])

    def test_a_cut_in_the_compaction_of_a_receive(self):
        for count in range(6):
            disk, keeper = kept(SMALL, 4)
            keeper.receive(UPPER, 0, "00")
            disk.schedule_cut(count, [32] * 9)
            # A zero, a flush, a record, a flush, the header, a flush: then the keeper is full.
            with self.assertRaises(PowerCut):
                keeper.receive(LOWER, 0, "01")
            self.check(keeper, [(UPPER, "00")], 0)
            self.assertEqual(open_keeper(disk).state().packets(), [(UPPER, "00")])
        disk, keeper = kept(SMALL, 4)
        keeper.receive(UPPER, 0, "00")
        disk.schedule_cut(6, [])
        with self.assertRaises(KeeperFull):
            keeper.receive(LOWER, 0, "01")

    def test_a_cut_after_the_compaction_of_a_receive(self):
        disk, keeper = kept(SMALL, 8)
        for at, digit in enumerate("001"):
            keeper.receive(UPPER, at, digit)
        disk.schedule_cut(3 + 1 + 1 + 1 + 1 + 1, [])
        with self.assertRaises(PowerCut):
            keeper.receive(LOWER, 0, "01")
        self.check(keeper, [(UPPER, "001")], 2)
        self.assertEqual(newest_header(disk)[0], 1)


if __name__ == "__main__":
    unittest.main()
