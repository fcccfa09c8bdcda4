"""Points 63 and 64: the disk."""

import random
import unittest

from packetpicture.disks import BLOCK, BLOCKS_MOST, Disk
from packetpicture.errors import PowerCut
from tests.checking import HUGE, out_of_range

ZEROS = [0] * 32
ONES = [1] * 32
TWOS = [2] * 32


def whole(disk):
    """Return all blocks of a disk."""
    return [disk.read(at) for at in range(disk.size())]


class Create(unittest.TestCase):
    def test_sizes(self):
        self.assertEqual((BLOCK, BLOCKS_MOST), (32, 400))
        for blocks in (4, 5, 399, 400):
            disk = Disk(blocks)
            self.assertEqual(disk.size(), blocks)
            self.assertEqual(whole(disk), [ZEROS] * blocks)
            self.assertEqual((disk.pending_count(), disk.cut_count()), (0, 0))

    def test_wrong_sizes(self):
        for blocks in (3, 401, 0, -1, HUGE, -HUGE):
            out_of_range(self, "blocks", Disk, blocks)


class ReadAndWrite(unittest.TestCase):
    def test_pending_writes_are_read(self):
        disk = Disk(4)
        self.assertIsNone(disk.write(3, ONES))
        self.assertEqual(whole(disk), [ZEROS, ZEROS, ZEROS, ONES])
        self.assertEqual(disk.pending_count(), 1)
        self.assertIsNone(disk.flush())
        self.assertEqual(whole(disk), [ZEROS, ZEROS, ZEROS, ONES])
        self.assertEqual(disk.pending_count(), 0)

    def test_several_pending_writes_to_one_block(self):
        disk = Disk(4)
        for block in (ONES, TWOS, list(range(32))):
            disk.write(0, block)
            disk.write(1, block)
            self.assertEqual(disk.read(0), block)
        self.assertEqual(disk.pending_count(), 6)
        disk.write(0, TWOS)
        self.assertEqual((disk.read(0), disk.read(1)), (TWOS, list(range(32))))
        disk.flush()
        self.assertEqual(whole(disk), [TWOS, list(range(32)), ZEROS, ZEROS])

    def test_each_byte_at_its_bounds(self):
        disk = Disk(5)
        for at in (0, 4):
            disk.write(at, [0, 255] * 16)
            self.assertEqual(disk.read(at), [0, 255] * 16)
        self.assertEqual(disk.read(2), ZEROS)

    def test_blocks_that_there_are_not(self):
        for size in (4, 400):
            disk = Disk(size)
            for at in (-1, size, -size, HUGE, -HUGE):
                out_of_range(self, "at", disk.read, at)
                out_of_range(self, "at", disk.write, at, [256])
            self.assertEqual(disk.pending_count(), 0)

    def test_wrong_blocks(self):
        disk = Disk(4)
        wrong = [[], [0] * 31, [0] * 33, [0] * 64]
        for at in (0, 15, 31):
            for byte in (-1, 256, HUGE, -HUGE):
                wrong.append(ZEROS[:at] + [byte] + ZEROS[at + 1:])
        wrong += [tuple(ZEROS), "0" * 32, [0] * 31 + ["0"], [0] * 31 + [None]]
        for block in wrong:
            out_of_range(self, "block", disk.write, 0, block)
        self.assertEqual(disk.pending_count(), 0)
        self.assertEqual(whole(disk), [ZEROS] * 4)

    def test_lists_are_copied(self):
        disk = Disk(4)
        block = list(ONES)
        disk.write(0, block)
        block[0] = 9
        self.assertEqual(disk.read(0), ONES)
        disk.read(0).clear()
        disk.flush()
        block[1] = 9
        disk.read(0)[5] = 9
        self.assertEqual(disk.read(0), ONES)
        # No two blocks are the same list.
        disk.read(1)[0] = 7
        self.assertEqual(whole(disk)[1:], [ZEROS] * 3)

    def test_an_empty_flush(self):
        disk = Disk(4)
        disk.flush()
        disk.flush()
        self.assertEqual(whole(disk), [ZEROS] * 4)


class Cut(unittest.TestCase):
    def pending(self):
        """Return a disk with two flushed blocks and three pending writes."""
        disk = Disk(4)
        disk.write(0, ONES)
        disk.write(1, ONES)
        disk.flush()
        for at in (0, 1, 3):
            disk.write(at, TWOS)
        return disk

    def test_torn_lists(self):
        for torn, wanted in (
            ([], (0, 0, 0)), ([0], (0, 0, 0)), ([32], (32, 0, 0)), ([1, 31], (1, 31, 0)), ([0, 0, 32], (0, 0, 32)),
            ([16, 32, 8], (16, 32, 8)), ([32, 32, 32, 32, 5], (32, 32, 32)), ([0, 0, 0, 32], (0, 0, 0)),
            ([32] * 100, (32, 32, 32)),
        ):
            disk = self.pending()
            self.assertIsNone(disk.cut_power(torn))
            old = (ONES, ONES, ZEROS)
            found = [disk.read(at) for at in (0, 1, 3)]
            self.assertEqual(found, [[2] * count + block[count:] for count, block in zip(wanted, old)])
            self.assertEqual(disk.read(2), ZEROS)
            self.assertEqual((disk.pending_count(), disk.cut_count()), (0, 1))
            # Nothing is pending, so a flush changes nothing.
            disk.flush()
            self.assertEqual([disk.read(at) for at in (0, 1, 3)], found)

    def test_several_writes_to_one_block(self):
        disk = Disk(4)
        disk.write(0, ONES)
        disk.write(0, TWOS)
        disk.write(0, [3] * 32)
        disk.cut_power([20, 10, 5])
        self.assertEqual(disk.read(0), [3] * 5 + [2] * 5 + [1] * 10 + [0] * 12)
        disk.write(0, ONES)
        disk.write(0, TWOS)
        disk.cut_power([0, 30])
        self.assertEqual(disk.read(0), [2] * 30 + [0] * 2)

    def test_the_disk_can_be_used_again(self):
        disk = self.pending()
        disk.cut_power([])
        disk.write(0, TWOS)
        disk.flush()
        self.assertEqual(disk.read(0), TWOS)
        disk.cut_power([])
        disk.cut_power([32])
        self.assertEqual(disk.cut_count(), 3)
        self.assertEqual(disk.read(0), TWOS)

    def test_wrong_numbers(self):
        disk = self.pending()
        for torn in ([-1], [33], [0, 0, 0, 0, 33], [32, -1, 32], [HUGE], [-HUGE]):
            out_of_range(self, "torn", disk.cut_power, torn)
            out_of_range(self, "torn", disk.schedule_cut, 0, torn)
        self.assertEqual((disk.pending_count(), disk.cut_count()), (3, 0))
        self.assertEqual(disk.read(0), TWOS)
        disk.flush()


class Schedule(unittest.TestCase):
    def cut_at(self, call, *arguments):
        """Check that a call raises PowerCut."""
        with self.assertRaises(PowerCut):
            call(*arguments)

    def test_at_a_write(self):
        disk = Disk(4)
        disk.write(0, ONES)
        self.assertIsNone(disk.schedule_cut(0, [7, 32]))
        self.assertEqual(disk.cut_count(), 0)
        self.cut_at(disk.write, 1, ONES)
        self.assertEqual(whole(disk), [[1] * 7 + [0] * 25, ZEROS, ZEROS, ZEROS])
        self.assertEqual((disk.pending_count(), disk.cut_count()), (0, 1))

    def test_at_a_flush(self):
        disk = Disk(4)
        disk.write(0, ONES)
        disk.write(1, ONES)
        disk.schedule_cut(0, [0, 32])
        self.cut_at(disk.flush)
        self.assertEqual(whole(disk), [ZEROS, ONES, ZEROS, ZEROS])
        self.assertEqual((disk.pending_count(), disk.cut_count()), (0, 1))

    def test_after_some_writes_and_flushes(self):
        for count in range(7):
            disk = Disk(4)
            disk.schedule_cut(count, [])
            steps = [(disk.write, 0, ONES), (disk.flush,), (disk.write, 1, ONES), (disk.write, 2, ONES),
                     (disk.flush,), (disk.flush,), (disk.write, 3, ONES)]
            for step in steps[:count]:
                self.assertIsNone(step[0](*step[1:]))
            self.assertEqual(disk.cut_count(), 0)
            self.cut_at(*steps[count])
            # The cut removed the schedule, so everything succeeds from now on.
            for step in steps:
                self.assertIsNone(step[0](*step[1:]))
            self.assertEqual(whole(disk), [ONES] * 4)
            self.assertEqual(disk.cut_count(), 1)

    def test_reads_and_counts_are_no_steps(self):
        disk = Disk(4)
        disk.schedule_cut(1, [])
        for _ in range(5):
            disk.read(0)
            disk.pending_count()
            disk.cut_count()
            disk.size()
        disk.write(0, ONES)
        self.cut_at(disk.flush)

    def test_a_wrong_write_does_not_count(self):
        disk = Disk(4)
        disk.schedule_cut(1, [])
        for _ in range(3):
            out_of_range(self, "at", disk.write, 4, ONES)
            out_of_range(self, "block", disk.write, 0, [0] * 31)
        disk.write(0, ONES)
        # Its arguments are checked before the power is cut.
        out_of_range(self, "at", disk.write, -1, ONES)
        out_of_range(self, "block", disk.write, 0, [256] * 32)
        self.assertEqual(disk.cut_count(), 0)
        self.cut_at(disk.write, 0, ONES)

    def test_a_later_schedule_replaces_it(self):
        disk = Disk(4)
        disk.schedule_cut(0, [32])
        disk.schedule_cut(2, [4])
        disk.write(0, ONES)
        disk.write(1, ONES)
        self.cut_at(disk.write, 2, ONES)
        self.assertEqual(whole(disk), [[1] * 4 + [0] * 28, ZEROS, ZEROS, ZEROS])
        disk.schedule_cut(100000, [])
        disk.write(0, TWOS)
        disk.schedule_cut(0, [])
        self.cut_at(disk.flush)
        self.assertEqual(disk.cut_count(), 2)

    def test_another_cut_removes_it(self):
        disk = Disk(4)
        disk.schedule_cut(1, [])
        disk.cut_power([])
        for at in range(4):
            disk.write(at, ONES)
        disk.flush()
        self.assertEqual(whole(disk), [ONES] * 4)
        self.assertEqual(disk.cut_count(), 1)

    def test_wrong_numbers(self):
        disk = Disk(4)
        for count in (-1, 100001, HUGE, -HUGE):
            out_of_range(self, "count", disk.schedule_cut, count, [33])
        # What was refused is no schedule, and it leaves the one that there is.
        disk.write(0, ONES)
        disk.schedule_cut(1, [9])
        out_of_range(self, "count", disk.schedule_cut, -1, [])
        out_of_range(self, "torn", disk.schedule_cut, 0, [33])
        disk.write(1, ONES)
        self.cut_at(disk.flush)
        self.assertEqual(disk.read(0), [1] * 9 + [0] * 23)

    def test_the_list_is_copied(self):
        disk = Disk(4)
        torn = [1, 2]
        disk.write(0, ONES)
        disk.write(1, ONES)
        disk.schedule_cut(0, torn)
        torn[0] = 32
        torn.clear()
        self.cut_at(disk.flush)
        self.assertEqual([disk.read(at)[:3] for at in (0, 1)], [[1, 0, 0], [1, 1, 0]])
        torn = [5]
        disk.write(2, ONES)
        disk.cut_power(torn)
        self.assertEqual(torn, [5])


class Runs(unittest.TestCase):
    def test_against_bytes_one_by_one(self):
        chance = random.Random(64)
        for _ in range(50):
            disk = Disk(4)
            stable, pending = [list(ZEROS) for _ in range(4)], []
            for _ in range(40):
                what = chance.random()
                if what < 0.7:
                    pending.append((chance.randrange(4), [chance.randrange(256) for _ in range(32)]))
                    disk.write(*pending[-1])
                else:
                    torn = None if what < 0.85 else [chance.randrange(33) for _ in range(chance.randrange(6))]
                    self.perform(stable, pending, torn)
                    pending = []
                    disk.flush() if torn is None else disk.cut_power(torn)
                now = [list(block) for block in stable]
                self.perform(now, pending, None)
                self.assertEqual(whole(disk), now)
                self.assertEqual(disk.pending_count(), len(pending))

    def perform(self, blocks, writes, torn):
        """Perform writes, byte by byte; without a torn list, as a whole."""
        for number, (at, block) in enumerate(writes):
            many = 32 if torn is None else (torn + [0] * len(writes))[number]
            for place in range(many):
                blocks[at][place] = block[place]


if __name__ == "__main__":
    unittest.main()
