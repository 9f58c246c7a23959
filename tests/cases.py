"""Test cases that hold Files against a model, with all that must be so behind every call."""

import unittest

from model import NUMBERS, Model, Refused, is_name, room_asked
from stillpoint import errors
from stillpoint.disk import Disk, disk_of
from stillpoint.files import Files, formatted, mounted

REFUSALS = (
    errors.NoThing, errors.NoDirectory, errors.BadName, errors.IsThere, errors.NoRoom,
    errors.NotEmpty, errors.WrongKind, errors.TooGreat, errors.ReadOnly, errors.NoFiles,
)


def answer_of(call, *args):
    """What a call of the program tells, or the name of its refusal's class."""
    try:
        return ("told", call(*args))
    except REFUSALS as refusal:
        return ("refused", type(refusal).__name__)


def model_answer(call, *args):
    try:
        return ("told", call(*args))
    except Refused as refusal:
        return ("refused", str(refusal))


def shown_state(files):
    """All that Files tell of their state: of each number its stat and its bytes or entries."""
    found = {}
    for number in NUMBERS:
        stat = answer_of(files.stat, number)
        if stat[0] == "told":
            is_file = stat[1][0] == "file"
            body = files.read(number, 0, 1000) if is_file else files.names(number)
            found[number] = (stat[1], body)
        elif stat[1] != "NoThing":
            raise AssertionError(stat)
    return found


def shown(files):
    return (shown_state(files), {name: shown_state(files.see(name)) for name in files.snaps()})


class FilesCase(unittest.TestCase):
    maxDiff = 4000

    def refused(self, refusal, call, *args):
        """The call is refused with that class itself."""
        with self.assertRaises(refusal) as taken:
            call(*args)
        self.assertIs(type(taken.exception), refusal)
        self.assertIs(type(str(taken.exception)), str)

    def same_blocks(self, found, expected):
        """As assertEqual, which works very long to show how long lists of blocks differ."""
        self.assertEqual(len(found), len(expected))
        wrong = [number for number in range(len(found)) if found[number] != expected[number]]
        self.assertEqual(wrong, [], "the places that differ")

    def check_writing(self, log, count):
        """[31]: what one call of formatted or sync put behind the log."""
        self.assertEqual(log[-1], ("barrier",))
        written = []
        for entry in log:
            if entry[0] == "write":
                word, number, block = entry
                written.append(number)
                self.assertIs(type(number), int)
                self.assertTrue(0 <= number < count)
                self.assertIs(type(block), tuple)
                self.assertEqual(len(block), 64)
                self.assertTrue(all(type(byte) is int and 0 <= byte <= 255 for byte in block))
            else:
                self.assertEqual(entry, ("barrier",))
        self.assertEqual(len(written), len(set(written)), "a block was written twice")

    def check_whole_state(self, state):
        """[20] and [21], of what shown_state told."""
        self.assertTrue(set(state) <= set(range(32)))
        self.assertEqual(state[0][0][:2], ("dir", 1))
        named = []
        for number, ((kind, links, size), body) in state.items():
            self.assertIs(type(body), list)
            if kind == "dir":
                self.assertEqual((links, size), (1, 10 * len(body)))
                names = [name for name, target in body]
                self.assertTrue(len(names) <= 40 and all(is_name(name) for name in names))
                self.assertEqual(names, sorted(set(names)))
                named.extend(target for name, target in body)
            else:
                self.assertEqual((kind, size), ("file", len(body)))
                self.assertTrue(size <= 600 and all(type(byte) is int and 0 <= byte <= 255 for byte in body))
        for number, ((kind, links, size), body) in state.items():
            self.assertEqual(named.count(number), 0 if number == 0 else links)
        reached = [0]
        for number in reached:
            if state[number][0][0] == "dir":
                reached.extend(target for name, target in state[number][1] if target not in reached)
        self.assertEqual(set(reached), set(state))

    def check_whole(self, files):
        self.assertIsInstance(files, Files)
        state, kept = shown(files)
        self.assertTrue(len(kept) <= 3 and all(is_name(name) for name in kept))
        for things in [state] + list(kept.values()):
            self.check_whole_state(things)

    def same(self, files, model):
        self.assertEqual(shown(files), model.shown())

    def shows_one_of(self, blocks, expected):
        """What is mounted of the blocks is one of these; tells it. Mounting writes nothing."""
        disk = disk_of(blocks)
        found = shown(mounted(disk))
        self.assertTrue(found in expected, "what is mounted is another state")
        self.assertEqual(disk.log, [])
        return found


class Pair:
    """Files and their model, which are given the same deeds."""

    def __init__(self, case, count):
        self.case = case
        self.disk = Disk(count)
        self.files = formatted(self.disk)
        self.model = Model()
        self.no_rooms = 0

    def do(self, name, *args):
        """One deed: answers must agree, and only sync may write. NoRoom needs [46]'s leave."""
        handed = [list(arg) if type(arg) is list else arg for arg in args]
        behind = self.model.copy()
        expected = model_answer(getattr(behind, name), *args)
        entries = len(self.disk.log)
        found = answer_of(getattr(self.files, name), *args)
        self.case.assertEqual(handed, list(args), "what was handed in is another")
        if found == ("refused", "NoRoom"):
            self.check_no_room(name, args, expected, behind)
        else:
            self.case.assertEqual(found, expected, (name, args))
            if expected[0] == "told":
                self.model = behind
        if name == "sync":
            self.case.check_writing(self.disk.log[entries:], len(self.disk.blocks))
        else:
            self.case.assertEqual(len(self.disk.log), entries, "the disk was written to")
        return found

    def check_no_room(self, name, args, expected, behind):
        self.no_rooms += 1
        self.case.assertEqual(expected[0], "told", (name, args, expected))
        self.case.assertGreater(room_asked(self.model, behind), len(self.disk.blocks), (name, args))
        self.check()
        self.case.assertEqual(shown(self.other_mounted()), self.model.as_synced().shown())

    def check(self):
        self.case.same(self.files, self.model)

    def other_mounted(self):
        """Files of a disk of the same blocks."""
        return mounted(disk_of(self.disk.blocks))

    def check_mounted(self):
        """A mounted disk of the same blocks shows what was synced last, unwritten to."""
        disk = disk_of(self.disk.blocks)
        self.case.assertEqual(shown(mounted(disk)), self.model.as_synced().shown())
        self.case.assertEqual(disk.log, [])
        self.case.same_blocks(disk.blocks, self.disk.blocks)

    def mount_again(self, blocks=None):
        """Goes on with a disk of the blocks; what wasn't synced is lost."""
        self.disk = disk_of(self.disk.blocks if blocks is None else blocks)
        self.files = mounted(self.disk)
        self.model = self.model.as_synced()
