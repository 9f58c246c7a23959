"""[20] to [22], [30]: images whose checks are right, but which show what no state may be; what a sync shares."""

import random

from cases import FilesCase, Pair, shown
from draws import GROWING, Draws
from stillpoint.chains import Chains, blocks_for, chain_blocks, free_numbers
from stillpoint.disk import Disk
from stillpoint.errors import NoFiles, NoRoom
from stillpoint.files import mounted
from stillpoint.images import Image, head_block, image_of, name_codes
from stillpoint.states import State, is_whole

FILE, DIRECTORY = 1, 2


def disk_with(image, turn=0):
    """A disk of an image that lies on it as a sync would write it."""
    disk = Disk(256)
    for row, numbers in image.places.items():
        for number, block in zip(numbers, chain_blocks(row, numbers)):
            disk.write(number, block)
    disk.write(0, head_block(image, turn))
    disk.log.clear()
    return disk


def disk_of_state(state, kept=None):
    return disk_with(image_of(state, kept or {}, list(range(2, 256)), {}))


def entry(name, number):
    return name_codes(name) + (number,)


def table_of(chains, things):
    """A table's head; a thing is its number, its kind, its row and, if another one, its row's length and head."""
    table = ()
    for thing in things:
        number, kind, row = thing[:3]
        length, head = thing[3:] or (len(row), chains.put(row))
        table += (number, kind, length // 256, length % 256, head)
    return (len(things), chains.put(table))


def disk_of_table(things, behind=()):
    chains = Chains(list(range(2, 256)), {})
    return disk_with(Image(chains.places, table_of(chains, things) + behind))


class BrokenStates(FilesCase):
    def test_whole_states_are_mounted(self):
        state = State({1: (1, 2), 31: (0,) * 600}, {0: {"a": 1, "b": 1, "d": 5, "z": 31}, 5: {"e": 6}, 6: {"f": 31}})
        self.assertTrue(is_whole(state))
        files = mounted(disk_of_state(state, {"s": state, "t": State({}, {0: {}})}))
        self.check_whole(files)
        self.assertEqual(files.snaps(), ["s", "t"])
        self.assertEqual(files.stat(31), ("file", 2, 600))

    def test_broken_states_are_no_files(self):
        whole = State({}, {0: {}})
        for state in (
            State({}, {}),
            State({0: ()}, {}),
            State({}, {1: {}}),
            State({}, {0: {"a": 1}}),
            State({1: ()}, {0: {}}),
            State({}, {0: {}, 1: {}}),
            State({}, {0: {"a": 0}}),
            State({}, {0: {"a": 1}, 1: {"b": 0}}),
            State({}, {0: {"a": 1, "b": 1}, 1: {}}),
            State({}, {0: {"a": 1, "b": 2}, 1: {"c": 2}, 2: {}}),
            State({}, {0: {}, 1: {"a": 2}, 2: {"b": 1}}),
            State({}, {0: {}, 1: {"a": 1}}),
            State({3: ()}, {0: {}, 1: {"a": 2, "c": 3}, 2: {"b": 1}}),
            State({32: ()}, {0: {"a": 32}}),
            State({255: ()}, {0: {"a": 255}}),
            State({}, {0: {"a": 32}, 32: {}}),
            State({1: (0,) * 601}, {0: {"a": 1}}),
            State({1: ()}, {0: {"n" + str(turn): 1 for turn in range(41)}}),
            State({1: ()}, {0: {".": 1}}),
            State({1: ()}, {0: {"..": 1}}),
            State({1: ()}, {0: {"": 1}}),
            State({1: ()}, {0: {"a": 1}, 1: {}}),
        ):
            with self.subTest(data=sorted(state.data), entries=state.entries):
                self.assertFalse(is_whole(state))
                self.refused(NoFiles, mounted, disk_of_state(state))
                self.refused(NoFiles, mounted, disk_of_state(whole, {"s": state}))
        self.assertFalse(is_whole(State({-1: ()}, {0: {"a": -1}})))
        self.assertFalse(is_whole(State({1: ()}, {0: {"a b": 1}})))

    def test_snapshots_under_no_names(self):
        whole = State({}, {0: {}})
        for name in ("", ".", ".."):
            self.refused(NoFiles, mounted, disk_of_state(whole, {name: whole}))

    def test_a_fourth_snapshot_has_no_place(self):
        whole = State({}, {0: {}})
        image = image_of(whole, {"a": whole, "b": whole, "c": whole}, list(range(2, 20)), {})
        self.assertEqual(mounted(disk_with(image)).snaps(), ["a", "b", "c"])
        self.assertEqual(len(head_block(image, 255)), 64)


class BrokenTables(FilesCase):
    def test_what_a_sync_would_write(self):
        root = entry("a", 1) + entry("b", 2)
        files = mounted(disk_of_table([(0, DIRECTORY, root), (1, FILE, (5,)), (2, DIRECTORY, ())]))
        self.assertEqual(files.names(0), [("a", 1), ("b", 2)])
        self.check_whole(files)

    def test_tables_that_no_sync_would_write(self):
        empty = (0, DIRECTORY, ())
        root = (0, DIRECTORY, entry("a", 1))
        file = (1, FILE, (5,))
        for things in (
            [],
            [file, root],
            [empty, empty],
            [root, file, file],
            [root, (1, FILE, ()), (1, DIRECTORY, ())],
            [(0, 0, ())],
            [(0, 3, ())],
            [(0, FILE, ())],
            [root, (1, 255, ())],
            [(0, DIRECTORY, (), 0, 3)],
            [root, (1, FILE, (), 5, 0)],
            [root, (1, FILE, (), 5, 1)],
            [root, (1, FILE, (), 601, 2)],
            [root, (1, FILE, (), 65535, 2)],
            [(0, DIRECTORY, entry("b", 1) + entry("a", 1)), file],
            [(0, DIRECTORY, entry("a", 1) + entry("a", 1)), file],
            [(0, DIRECTORY, entry("a", 1)[:8]), file],
            [(0, DIRECTORY, entry("a", 1) + (1,)), file],
            [(0, DIRECTORY, (0, 1) + (0,) * 6 + (1,)), file],
            [(0, DIRECTORY, (66,) + (0,) * 7 + (1,)), file],
            [(0, DIRECTORY, (255,) * 8 + (1,)), file],
            [(0, DIRECTORY, (0,) * 8 + (1,)), file],
        ):
            with self.subTest(things=things):
                self.refused(NoFiles, mounted, disk_of_table(things))

    def test_heads_that_no_sync_would_write(self):
        empty = [(0, DIRECTORY, ())]
        name, other = name_codes("a"), name_codes("b")
        self.assertEqual(mounted(disk_of_table(empty, name + (1, 2) + other + (1, 2))).snaps(), ["a", "b"])
        for behind in (
            other + (1, 2) + name + (1, 2),
            name + (1, 2) + name + (1, 2),
            name + (0, 0),
            name + (0, 2),
            (0,) * 8 + (0, 2),
            (0,) * 10 + name + (1, 2),
            (0,) + name[:-1] + (1, 2),
            name + (1, 0),
            name + (1, 1),
            name + (1, 200),
            name + (2, 2),
            name + (255, 2),
        ):
            with self.subTest(behind=behind):
                self.refused(NoFiles, mounted, disk_of_table(empty, behind))

    def test_equal_rows_in_two_chains(self):
        """A sync would let them share one, and could have no room for that."""
        chains = Chains(list(range(2, 256)), {})
        row = (9, 9, 9)
        things = [(0, DIRECTORY, entry("a", 1) + entry("b", 2)), (1, FILE, row), (2, FILE, (), 3, 50)]
        disk = disk_with(Image(chains.places, table_of(chains, things)))
        disk.write(50, chain_blocks(row, (50,))[0])
        self.refused(NoFiles, mounted, disk)

    def test_a_chain_that_leads_back_into_itself(self):
        chains = Chains(list(range(2, 256)), {})
        things = [(0, DIRECTORY, entry("a", 1)), (1, FILE, (), 600, 50)]
        image = Image(chains.places, table_of(chains, things))
        image.places[(7,) * 600] = (50,) * 10
        disk = disk_with(image)
        disk.write(50, (50,) + (7,) * 63)
        files = mounted(disk)
        self.assertEqual(files.read(1, 0, 600), [7] * 600)
        self.check_whole(files)
        files.make("/b", "dir")
        files.sync()
        self.assertEqual(shown(mounted(disk)), shown(files))


class Shares(FilesCase):
    def written(self, pair):
        entries = len(pair.disk.log)
        pair.do("sync")
        return [entry[1] for entry in pair.disk.log[entries:] if entry[0] == "write"]

    def test_only_what_is_new_is_written(self):
        pair = Pair(self, 60)
        pair.do("make", "/a", "file")
        pair.do("write", 1, 0, list(range(200)))
        pair.do("make", "/b", "file")
        # The root's row, the table and four blocks of bytes, and the head
        self.assertEqual(len(self.written(pair)), 7)
        self.assertEqual(len(self.written(pair)), 1)
        pair.do("snap", "s")
        self.assertEqual(len(self.written(pair)), 1)
        pair.do("write", 2, 0, [1])
        self.assertEqual(len(self.written(pair)), 3)
        pair.do("write", 2, 0, list(range(200)))
        self.assertEqual(len(self.written(pair)), 2)
        pair.do("unsnap", "s")
        self.assertEqual(len(self.written(pair)), 1)
        pair.check_mounted()

    def test_the_last_sync_is_never_written_over(self):
        rng = random.Random(12)
        pair = Pair(self, 60)
        draws = Draws(rng)
        for turn in range(80):
            for again in range(4):
                pair.do(*draws.deed(pair.model, GROWING))
            ahead = dict(pair.files.store.synced)
            head = pair.files.store.slot
            kept = [number for numbers in ahead.values() for number in numbers] + [head]
            self.assertFalse(set(self.written(pair)) & set(kept))

    def test_a_damaged_disk_never_shows_a_state_that_was_not_synced(self):
        """The check in the head stands for all that the state is made of."""
        rng = random.Random(13)
        pair = Pair(self, 40)
        draws = Draws(rng)
        states = [pair.model.as_synced().shown()]
        for turn in range(25):
            for again in range(3):
                pair.do(*draws.deed(pair.model, GROWING))
            pair.do("sync")
            states.append(pair.model.as_synced().shown())
        blocks = pair.disk.blocks
        for number in range(40):
            for place in range(64):
                changed, exchanged = list(blocks[number]), list(blocks[number])
                changed[place] = (changed[place] + rng.randrange(1, 256)) % 256
                exchanged[place], exchanged[place - 1] = exchanged[place - 1], exchanged[place]
                for block in (tuple(changed), tuple(exchanged)):
                    try:
                        self.shows_one_of(blocks[:number] + [block] + blocks[number + 1:], states)
                    except NoFiles:
                        pass


class ChainBlocks(FilesCase):
    def test_rows_of_all_lengths_fit(self):
        for length in range(1, 601):
            row = tuple(place % 256 for place in range(length))
            chains = Chains(list(range(2, 30)), {})
            self.assertEqual(chains.put(row), 2)
            numbers = chains.places[row]
            blocks = chain_blocks(row, numbers)
            self.assertEqual([len(numbers)] * 2, [blocks_for(length), len(blocks)])
            self.assertEqual({len(block) for block in blocks}, {64})
            self.assertLessEqual(len(blocks), -(-length // 32))
        self.assertEqual(Chains([], {}).put(()), 0)

    def test_no_room(self):
        row = (1,) * 127
        chains = Chains([2, 3], {})
        self.refused(NoRoom, chains.put, row)
        self.assertEqual(chains.put(row[:126]), 2)
        self.refused(NoRoom, chains.put, (2,))
        self.assertEqual(Chains([], {row: (7, 8, 9)}).put(row), 7)

    def test_free_numbers(self):
        self.assertEqual(free_numbers(16, {}), list(range(2, 16)))
        self.assertEqual(free_numbers(9, {(1,): (3,), (2,): (5, 4)}), [2, 6, 7, 8])
