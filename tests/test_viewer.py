"""Point 59: viewers."""

import random
import unittest

from packetpicture.arrived import Arrived
from packetpicture.errors import (
    BitsAhead, Contradiction, NoFrame, NoSuchPacket, OtherFrame, PictureError,
)
from packetpicture.files import write_file
from packetpicture.frames import Frame, all_keys
from packetpicture.packets import all_packets
from packetpicture.ranges import value_range
from packetpicture.viewer import UNDO_MOST, Viewer
from tests.agreeing import all_whole, partly_arrived, places
from tests.checking import HUGE, out_of_range, random_picture
from tests.test_requests import LOWER, UPPER, wrong_keys

SHAPES = ((2, 2, 2, 1, 2), (5, 4, 3, 3, 2), (20, 18, 2, 1, 16), (1, 1, 1, 1, 1))


def small():
    """Return a viewer of the frame of point 34."""
    return Viewer(Frame(2, 2, 2, 1, 2))


def example():
    """Return such a viewer with what has arrived in point 34, by two changes."""
    viewer = small()
    viewer.receive(UPPER, 0, "00")
    viewer.receive(LOWER, 0, "010")
    return viewer


class Receive(unittest.TestCase):
    def test_the_frame(self):
        for shape in SHAPES:
            self.assertTrue(Viewer(Frame(*shape)).frame.same(Frame(*shape)))

    def test_the_number_of_new_digits(self):
        viewer = small()
        for key, start, bits, added in (
            (UPPER, 0, "0", 1), (UPPER, 0, "00", 1), (UPPER, 0, "00", 0), (UPPER, 2, "", 0), (UPPER, 1, "0111", 3),
            (LOWER, 0, "", 0), (LOWER, 0, "010", 3), (UPPER, 4, "1", 0),
        ):
            self.assertEqual(viewer.receive(key, start, bits), added)
        self.assertEqual(viewer.packets(), [(UPPER, "00111"), (LOWER, "010")])

    def test_each_error_changes_nothing(self):
        viewer = example()
        for error, key, start, bits in (
            (BitsAhead, UPPER, 3, "1"), (BitsAhead, LOWER, 4, ""), (Contradiction, UPPER, 0, "01"),
            (Contradiction, LOWER, 2, "1111"), (NoSuchPacket, UPPER, 2, "00"), (NoSuchPacket, UPPER, 0, "0000"),
        ):
            with self.assertRaises(error):
                viewer.receive(key, start, bits)
        for name, key in wrong_keys(viewer.frame):
            out_of_range(self, name, viewer.receive, key, -1, "")
        for start in (-1, 65536, HUGE, -HUGE):
            out_of_range(self, "start", viewer.receive, UPPER, start, "0" * 65536)
        out_of_range(self, "bits", viewer.receive, UPPER, 9, "0" * 65536)
        self.assertEqual(viewer.packets(), [(UPPER, "00"), (LOWER, "010")])
        # Two changes can be undone, so nothing else was one.
        self.assertEqual([viewer.undo() for _ in range(3)], [True, True, False])

    def test_value_range(self):
        viewer = example()
        self.assertEqual(viewer.value_range(0, 3), (0, 3, 1, 2, [0, 1, 2, 3]))
        self.assertEqual(viewer.value_range(0, 0), (0, 0, 0, 0, [0]))
        viewer.value_range(0, 3)[4].clear()
        self.assertEqual(viewer.value_range(0, 3)[4], [0, 1, 2, 3])
        for channel in (-1, 1, HUGE):
            out_of_range(self, "channel", viewer.value_range, channel, 4)
        for pixel in (-1, 4, HUGE):
            out_of_range(self, "pixel", viewer.value_range, 0, pixel)


class Undo(unittest.TestCase):
    def test_the_constant(self):
        self.assertEqual(UNDO_MOST, 16)

    def test_without_a_saved_state(self):
        viewer = small()
        for _ in range(3):
            self.assertIs(viewer.undo(), False)
        self.assertEqual(viewer.packets(), [])

    def test_calls_that_change_nothing(self):
        viewer = example()
        self.assertEqual(viewer.receive(UPPER, 0, "00"), 0)
        self.assertEqual(viewer.receive(UPPER, 0, ""), 0)
        self.assertIs(viewer.undo(), True)
        self.assertEqual(viewer.packets(), [(UPPER, "00")])
        self.assertEqual(viewer.receive(LOWER, 0, ""), 0)
        self.assertIs(viewer.undo(), True)
        self.assertEqual(viewer.packets(), [])
        self.assertIs(viewer.undo(), False)

    def test_a_change_after_an_undo(self):
        viewer = example()
        viewer.undo()
        self.assertEqual(viewer.receive(LOWER, 0, "1"), 1)
        self.assertEqual(viewer.packets(), [(UPPER, "00"), (LOWER, "1")])
        self.assertEqual(viewer.value_range(0, 0)[:2], (1, 1))
        self.assertIs(viewer.undo(), True)
        self.assertEqual(viewer.packets(), [(UPPER, "00")])

    def test_16_and_17_changes(self):
        frame = Frame(20, 20, 1, 1, 16)
        code = all_packets(frame, random_picture(random.Random(59), frame))[0][1]
        for count in (15, 16, 17, 20, 40):
            viewer = Viewer(frame)
            for at in range(count):
                self.assertEqual(viewer.receive((0, 0, 0), at, code[at]), 1)
            left = count
            for _ in range(min(count, 16)):
                self.assertIs(viewer.undo(), True)
                left -= 1
                self.assertEqual(viewer.packets(), [((0, 0, 0), code[:left])] if left else [])
            self.assertIs(viewer.undo(), False)
            self.assertEqual(left, max(count - 16, 0))
            self.assertEqual(viewer.state().digit_count(), left)

    def test_undo_makes_room_for_new_states(self):
        frame = Frame(16, 16, 1, 1, 16)
        viewer = Viewer(frame)
        code = all_packets(frame, random_picture(random.Random(60), frame))[0][1]
        for at in range(20):
            viewer.receive((0, 0, 0), at, code[at])
        for _ in range(5):
            viewer.undo()
        for at in range(15, 18):
            viewer.receive((0, 0, 0), at, code[at])
        self.assertEqual([viewer.undo() for _ in range(15)], [True] * 14 + [False])
        self.assertEqual(viewer.state().digit_count(), 4)


class Copies(unittest.TestCase):
    def test_what_was_returned_is_not_changed_later(self):
        viewer = small()
        empty, none = viewer.state(), viewer.packets()
        viewer.receive(UPPER, 0, "00")
        one, first = viewer.state(), viewer.packets()
        viewer.receive(LOWER, 0, "010")
        viewer.undo()
        viewer.undo()
        self.assertTrue(empty.same(Arrived(viewer.frame)))
        self.assertEqual(none, [])
        self.assertEqual(first, [(UPPER, "00")])
        self.assertEqual(one.packets(), first)

    def test_changing_what_was_returned_does_not_change_the_viewer(self):
        viewer = example()
        state, packets = viewer.state(), viewer.packets()
        state.accept(UPPER, 2, "1")
        packets.clear()
        self.assertEqual(viewer.packets(), [(UPPER, "00"), (LOWER, "010")])
        self.assertEqual(viewer.state().packets(), viewer.packets())
        self.assertEqual(viewer.value_range(0, 3)[:2], (0, 3))
        viewer.undo()
        state = viewer.state()
        state.accept(LOWER, 0, "1")
        viewer.receive(LOWER, 0, "010")
        viewer.undo()
        self.assertEqual(viewer.packets(), [(UPPER, "00")])

    def test_two_viewers_of_one_frame(self):
        frame = Frame(2, 2, 2, 1, 2)
        one, other = Viewer(frame), Viewer(frame)
        one.receive(UPPER, 0, "00")
        self.assertEqual(other.packets(), [])
        self.assertIs(other.undo(), False)


class Files(unittest.TestCase):
    def file(self, packets, numbers=(2, 2, 2, 1, 2)):
        """Return the bytes of a file."""
        return write_file(Frame(*numbers), packets)

    def refuse(self, viewer, error, row):
        """Check that a file is refused and changes nothing."""
        before, kept = viewer.packets(), list(row)
        with self.assertRaises(error):
            viewer.receive_file(row)
        self.assertEqual(viewer.packets(), before)
        self.assertEqual(row, kept)

    def test_one_change_for_the_whole_file(self):
        chance = random.Random(61)
        for shape in SHAPES:
            frame = Frame(*shape)
            packets = all_packets(frame, random_picture(chance, frame))
            chance.shuffle(packets)
            viewer = Viewer(frame)
            row = write_file(frame, packets)
            self.assertEqual(viewer.receive_file(row), sum(len(code) for _, code in packets))
            self.assertEqual(viewer.packets(), sorted(packets, key=lambda packet: all_keys(frame).index(packet[0])))
            self.assertEqual(viewer.receive_file(row), 0)
            self.assertIs(viewer.undo(), True)
            self.assertEqual(viewer.packets(), [])
            self.assertIs(viewer.undo(), False)

    def test_a_file_that_brings_some_new_digits(self):
        viewer = example()
        self.assertEqual(viewer.receive_file(self.file([(LOWER, "01"), (UPPER, "0011")])), 2)
        self.assertEqual(viewer.packets(), [(UPPER, "0011"), (LOWER, "010")])
        self.assertIs(viewer.undo(), True)
        self.assertEqual(viewer.packets(), [(UPPER, "00"), (LOWER, "010")])

    def test_files_that_bring_nothing_new(self):
        viewer = example()
        for packets in ([], [(UPPER, "")], [(UPPER, "0"), (LOWER, "010")], [(UPPER, "00"), (LOWER, "")]):
            self.assertEqual(viewer.receive_file(self.file(packets)), 0)
        self.assertEqual([viewer.undo() for _ in range(3)], [True, True, False])

    def test_files_with_a_flaw(self):
        row = self.file([(UPPER, "00"), (LOWER, "010")])
        # The header has 13 bytes, each packet 9.
        for at, packets in ((30, [(UPPER, "00")]), (22, [(UPPER, "00")]), (21, []), (13, [])):
            for change in (1, 128):
                wrong = list(row)
                wrong[at] = (wrong[at] + change) % 256
                viewer = small()
                self.assertEqual(viewer.receive_file(wrong), sum(len(bits) for _, bits in packets))
                self.assertEqual(viewer.packets(), packets)
                self.assertIs(viewer.undo(), packets != [])
        viewer = small()
        self.assertEqual(viewer.receive_file(row + [0]), 5)

    def test_cut_files(self):
        frame = Frame(20, 18, 2, 1, 16)
        packets = all_packets(frame, random_picture(random.Random(62), frame))
        row = write_file(frame, packets)
        seen = []
        for many in range(13, len(row) + 1, 3):
            viewer = Viewer(frame)
            seen.append(viewer.receive_file(row[:many]))
            self.assertEqual(seen[-1], viewer.state().digit_count())
            self.assertTrue(all(dict(packets)[key].startswith(bits) for key, bits in viewer.packets()))
        self.assertEqual(seen, sorted(seen))
        self.assertGreater(len(set(seen)), len(row) // 5)

    def test_no_frame(self):
        row = self.file([(UPPER, "00")])
        for wrong in ([], row[:12], [0] + row[1:], [79], row[:4] + [0] + row[5:], [80, 80, 67, 49]):
            self.refuse(example(), NoFrame, wrong)

    def test_other_frames(self):
        for numbers in ((1, 2, 2, 1, 2), (2, 3, 2, 1, 2), (2, 2, 3, 1, 2), (2, 2, 2, 3, 2), (2, 2, 2, 1, 3)):
            self.refuse(example(), OtherFrame, self.file([], numbers))
            # A later flaw or a wrong packet does not matter then.
            self.refuse(example(), OtherFrame, self.file([(LOWER, "1")], numbers)[:-1] + [0])

    def test_contradictions(self):
        for packets in ([(UPPER, "01")], [(UPPER, "00111"), (LOWER, "011")], [(LOWER, "0000"), (UPPER, "0000")]):
            self.refuse(example(), Contradiction, self.file(packets))

    def test_no_such_packets(self):
        for packets in ([(UPPER, "0000")], [(LOWER, "0100"), (UPPER, "001111")], [(UPPER, "0" * 65535)]):
            self.refuse(example(), NoSuchPacket, self.file(packets))

    def test_the_first_wrong_packet(self):
        self.refuse(example(), NoSuchPacket, self.file([(UPPER, "0000"), (LOWER, "1")]))
        self.refuse(example(), Contradiction, self.file([(LOWER, "1"), (UPPER, "0000")]))

    def test_a_refused_file_saves_nothing(self):
        viewer = example()
        for wrong in (self.file([(UPPER, "00111"), (LOWER, "1")]), self.file([], (2, 2, 2, 1, 1)), []):
            self.refuse(viewer, PictureError, wrong)
        self.assertEqual([viewer.undo() for _ in range(3)], [True, True, False])

    def test_rows_that_are_no_files(self):
        row = self.file([(UPPER, "00")])
        for wrong in (row + [256], row + [-1], [HUGE], [-HUGE] + row, [0] * 100001):
            before = example()
            out_of_range(self, "file", before.receive_file, wrong)
            self.assertEqual(before.packets(), example().packets())

    def test_17_files(self):
        viewer = Viewer(Frame(16, 16, 1, 1, 16))
        code = all_packets(viewer.frame, random_picture(random.Random(63), viewer.frame))[0][1]
        for many in range(1, 18):
            self.assertEqual(viewer.receive_file(write_file(viewer.frame, [((0, 0, 0), code[:many])])), 1)
        self.assertEqual([viewer.undo() for _ in range(17)], [True] * 16 + [False])
        self.assertEqual(viewer.packets(), [((0, 0, 0), code[:1])])


class Runs(unittest.TestCase):
    def piece(self, chance, state, packets):
        """Return a piece, often of the packets, sometimes a wrong one."""
        key, code = chance.choice(packets)
        start = chance.choice((0, len(state.digits(key)), chance.randrange(len(code) + 1)))
        if chance.random() < 0.1:
            return key, start, "01"[chance.randrange(2)] * 3
        return key, start, code[start:start + chance.choice((0, 1, 2, 9, 300))]

    def step(self, chance, viewer, packets):
        """Do something with a viewer, and return whether it was a change, and whether an undo."""
        frame = viewer.frame
        try:
            if chance.random() < 0.15:
                sent = partly_arrived(chance, frame, packets)
                return viewer.receive_file(write_file(frame, sent.packets())) > 0, False
            if chance.random() < 0.15:
                return False, viewer.undo()
            return viewer.receive(*self.piece(chance, viewer.state(), packets)) > 0, False
        except PictureError:
            return False, False

    def test_against_a_list_of_all_states(self):
        chance = random.Random(64)
        for shape in SHAPES:
            for _ in range(5):
                frame = Frame(*shape)
                packets = all_packets(frame, random_picture(chance, frame))
                viewer, states = Viewer(frame), [Arrived(frame)]
                for _ in range(60):
                    change, undone = self.step(chance, viewer, packets)
                    if change:
                        self.assertGreater(viewer.state().digit_count(), states[-1].digit_count())
                        states = (states + [viewer.state()])[-17:]
                    elif undone:
                        states.pop()
                    self.assertTrue(viewer.state().same(states[-1]))
                    self.assertEqual(viewer.packets(), states[-1].packets())
                    self.check_ranges(chance, viewer, states[-1])

    def check_ranges(self, chance, viewer, state):
        """Check a range, with an object that has received the same digits."""
        channel, pixel = chance.choice(places(viewer.frame))
        wanted = value_range(all_whole(viewer.frame, state.packets()), channel, pixel)
        self.assertEqual(viewer.value_range(channel, pixel), wanted)


if __name__ == "__main__":
    unittest.main()
