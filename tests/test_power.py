"""Point 72: what a keeper has after the power was cut."""

import itertools
import random
import unittest

from packetpicture.blocks import decode_record
from packetpicture.errors import BitsAhead, KeeperFull, NotKept, PowerCut
from packetpicture.frames import Frame, key_at
from packetpicture.keeper import format_disk, open_keeper
from packetpicture.packets import all_packets
from tests.checking import random_picture
from tests.kept import NotedDisk, digits_of_row, log_of

TORN = (
    [], [32] * 20, [31] * 20, [1] * 20, [2] * 20, [16, 32] * 10, [32, 0] * 10, [0, 32] * 10, [32, 32, 0, 32, 5, 32],
    [0, 0, 0, 32, 32, 32, 32, 32], [5, 6, 7, 25, 26, 30, 31, 32],
)


class Kept:
    """A disk in use, the row of its records, and how many of these no cut can take away."""

    def __init__(self, frame, blocks):
        self.frame = frame
        self.disk = NotedDisk(blocks)
        format_disk(self.disk, frame)
        self.keeper = open_keeper(self.disk)
        self.row = []
        self.safe = 0

    def receive(self, *piece):
        """Let the keeper receive a piece, if it can, and note the records that it writes."""
        self.disk.take_notes()
        try:
            self.keeper.receive(*piece)
        except (BitsAhead, KeeperFull):
            pass
        finally:
            self.note_records(self.disk.take_notes())

    def note_records(self, notes):
        """Append the records that were written in `receive`, and not by its compaction."""
        flushes = notes.count("flush")
        assert flushes in (0, 1, 2, 3)
        if flushes in (1, 2):
            return
        if flushes == 3:
            self.safe = len(self.row)
            notes = notes[len(notes) - notes[::-1].index("flush"):]
        for _, block in notes:
            parts = decode_record(block)
            # Without a flush these may be the zeros of a compaction that was cut.
            if parts is not None:
                self.row.append((key_at(self.frame, parts[0]), *parts[1:]))

    def sync(self):
        self.keeper.sync()
        self.safe = len(self.row)

    def compact(self):
        self.keeper.compact()
        self.safe = len(self.row)

    def reopen(self):
        """Open a new keeper and return whether it has what had arrived after a prefix that is long enough."""
        self.keeper = open_keeper(self.disk)
        digits = dict(self.keeper.state().packets())
        for count in range(self.safe, len(self.row) + 1):
            if digits == digits_of_row(self.row[:count]):
                self.row = self.row[:count]
                self.safe = count
                return True
        return False

    def same_again(self):
        """Return whether opening the disk again gives the same."""
        before = self.keeper
        self.keeper = open_keeper(self.disk)
        return self.keeper.state().same(before.state()) and self.keeper.free_blocks() == before.free_blocks()


def perform(kept, steps):
    """Perform the first steps of a list, and return those behind the first one that is cut."""
    for at, step in enumerate(steps):
        try:
            getattr(kept, step[0])(*step[1:])
        except PowerCut:
            return steps[at + 1:]
    return []


def script():
    """Return (frame, steps) that fill the log, sync, compact and open."""
    frame = Frame(4, 2, 2, 1, 2)
    codes = dict(all_packets(frame, random_picture(random.Random(72), frame)))
    one, two, three, four = codes
    pieces = [(one, 0, 1), (two, 0, 2), (one, 0, 2), "sync", (two, 0, 3), (three, 0, 1), (three, 0, 2), (two, 0, 9),
              (one, 0, 3), "compact", (four, 0, 1), (four, 0, 2), "reopen", (three, 0, 9), (four, 1, 4), (one, 0, 9),
              (four, 0, 9)]
    steps = []
    for piece in pieces:
        if isinstance(piece, str):
            steps.append((piece,))
        else:
            key, start, end = piece
            steps.append(("receive", key, start, codes[key][start:end]))
    return frame, steps


def long_script():
    """Return (frame, steps) with packets of more than 160 digits."""
    frame = Frame(20, 16, 1, 1, 16)
    codes = dict(all_packets(frame, random_picture(random.Random(73), frame)))
    one, two = codes
    return frame, [("receive", one, 0, codes[one][:170]), ("receive", two, 0, codes[two][:9]), ("sync",),
                   ("receive", one, 0, codes[one]), ("receive", two, 0, codes[two])]


class Cuts(unittest.TestCase):
    def pending_at_cut(self, frame, blocks, steps, count):
        """Return how many writes are pending when the power is cut after so many steps, or None if it is not."""
        kept = Kept(frame, blocks)
        kept.disk.schedule_cut(count, [])
        perform(kept, steps)
        return kept.disk.lost

    def runs(self, frame, blocks, steps):
        """Return tuples (disk in use, steps left) for a cut after each number of steps and each torn list."""
        found = []
        for count in itertools.count():
            pending = self.pending_at_cut(frame, blocks, steps, count)
            if pending is None:
                self.assertGreater(count, 5)
                return found
            # Beyond the pending writes a torn list makes no difference.
            for torn in {tuple(torn + [0] * pending)[:pending] for torn in TORN}:
                kept = Kept(frame, blocks)
                kept.disk.schedule_cut(count, list(torn))
                found.append((kept, perform(kept, steps)))

    def check_opening(self, kept):
        """Check what the next keeper has."""
        self.assertTrue(kept.reopen())
        self.assertTrue(kept.same_again())
        # All of what it has is in the log, and what is written next stands behind that.
        self.assertEqual(digits_of_row(log_of(kept.disk)), dict(kept.keeper.state().packets()))

    def test_cut_once(self):
        for blocks in (4, 6, 8, 11, 14):
            self.check_cut_once(*script(), blocks)

    def test_cut_once_in_long_packets(self):
        for blocks in (4, 10):
            self.check_cut_once(*long_script(), blocks)

    def check_cut_once(self, frame, steps, blocks):
        """Check what the next keeper has after each cut, and what it has at the end."""
        for kept, left in self.runs(frame, blocks, steps):
            self.check_opening(kept)
            # The keeper goes on, and what is synced is there after another cut.
            perform(kept, left)
            kept.sync()
            synced = kept.keeper.state()
            kept.disk.cut_power([])
            self.check_opening(kept)
            self.assertTrue(kept.keeper.state().same(synced))

    def test_records_behind_a_lost_one_do_not_come_back(self):
        frame, steps = script()
        one, two = steps[:2]
        for torn in ([0, 32], [31, 32], [1, 32]):
            kept = Kept(frame, 12)
            perform(kept, [one, two])
            kept.disk.cut_power(torn)
            self.check_opening(kept)
            self.assertEqual(kept.row, [])
            # The next record stands in front of the place where the second one was.
            perform(kept, [one, ("sync",)])
            kept.disk.cut_power([])
            self.check_opening(kept)
            self.assertEqual(kept.row, [one[1:]])

    def test_cut_again_while_opening(self):
        frame, steps = script()
        for blocks in (8, 11):
            for kept, left in self.runs(frame, blocks, steps):
                chance = random.Random(len(left))
                for count in range(3):
                    kept.disk.schedule_cut(count, chance.choice(TORN))
                    try:
                        self.assertTrue(kept.reopen())
                    except PowerCut:
                        pass
                    kept.disk.cut_power(chance.choice(TORN))
                self.check_opening(kept)

    def test_cut_again_in_the_rest(self):
        frame, steps = script()
        for blocks in (10,):
            for kept, left in self.runs(frame, blocks, steps):
                self.check_opening(kept)
                chance = random.Random(len(left))
                while left:
                    kept.disk.schedule_cut(chance.randrange(25), chance.choice(TORN))
                    left = perform(kept, left)
                    kept.disk.cut_power(chance.choice(TORN))
                    self.check_opening(kept)


class Runs(unittest.TestCase):
    def step(self, chance, kept, codes):
        """Do something with a disk, perhaps with a cut."""
        what = chance.random()
        if what < 0.1:
            kept.disk.schedule_cut(chance.randrange(30), [chance.randrange(33) for _ in range(chance.randrange(9))])
        if what < 0.15:
            kept.sync()
        elif what < 0.2:
            kept.compact()
        elif what < 0.25:
            self.assertTrue(kept.reopen())
        else:
            key = chance.choice(list(codes))
            start = len(kept.keeper.state().digits(key))
            end = start + chance.choice((1, 1, 2, 5, 200))
            start = chance.choice((0, start))
            kept.receive(key, start, codes[key][start:end])

    def test_any_steps(self):
        chance = random.Random(74)
        for shape in ((4, 2, 2, 1, 2), (3, 3, 2, 3, 3), (20, 16, 1, 1, 16), (1, 1, 8, 1, 1)):
            for blocks in (4, 9, 14, 30):
                frame = Frame(*shape)
                codes = dict(all_packets(frame, random_picture(chance, frame)))
                kept = Kept(frame, blocks)
                for _ in range(150):
                    try:
                        self.piece_or_step(chance, kept, codes)
                    except (PowerCut, NotKept):
                        # This removes a schedule that opening might reach.
                        kept.disk.cut_power([])
                        self.assertTrue(kept.reopen())
                        self.assertTrue(kept.same_again())

    def piece_or_step(self, chance, kept, codes):
        """Do something, sometimes a cut from outside."""
        if chance.random() < 0.05:
            kept.disk.cut_power([chance.choice((0, 32, chance.randrange(33))) for _ in range(chance.randrange(9))])
        else:
            self.step(chance, kept, codes)


if __name__ == "__main__":
    unittest.main()
