"""[2], [30], [31], [45]: formatted, mounted and sync; disks that nobody formatted; damaged ones."""

import random

from cases import FilesCase, Pair, shown
from draws import ALL_SORTS, GROWING, Draws
from model import Model
from stillpoint.disk import Disk, disk_of
from stillpoint.errors import NoFiles
from stillpoint.files import Files, formatted, mounted

NOUGHTS = (0,) * 64


def drawn_block(rng):
    return tuple(rng.randrange(256) for place in range(64))


def used_pair(case, seed, count, deeds=150):
    """Files behind many deeds and syncs, the last of them a sync."""
    rng = random.Random(seed)
    pair = Pair(case, count)
    draws = Draws(rng)
    for turn in range(deeds):
        pair.do(*draws.deed(pair.model, ALL_SORTS))
    pair.do("sync")
    return pair


class Formatted(FilesCase):
    def check_empty(self, blocks):
        disk = disk_of(blocks)
        files = formatted(disk)
        self.assertIsInstance(files, Files)
        self.check_writing(disk.log, len(blocks))
        self.same(files, Model())
        other = disk_of(disk.blocks)
        self.same(mounted(other), Model())
        self.assertEqual(files.make("/a", "file"), 1)

    def test_new_disks(self):
        for count in (16, 17, 18, 20, 100, 255, 256):
            with self.subTest(count=count):
                self.check_empty(Disk(count).blocks)

    def test_whatever_was_on_the_disk(self):
        rng = random.Random(1)
        self.check_empty([None] * 18)
        self.check_empty([(255,) * 64] * 18)
        self.check_empty([drawn_block(rng) for number in range(30)])
        for seed in range(8):
            blocks = used_pair(self, seed, 90).disk.blocks
            self.check_empty(blocks)
            for turn in range(5):
                for number in rng.sample(range(90), 20):
                    blocks[number] = rng.choice((None, NOUGHTS, drawn_block(rng), blocks[rng.randrange(90)]))
                self.check_empty(blocks)

    def test_whatever_was_on_the_disk_at_each_turn_of_its_heads(self):
        disk = Disk(20)
        files = formatted(disk)
        for turn in range(520):
            if turn % 3 == 0:
                files.snap("s") if not files.snaps() else files.unsnap("s")
            files.sync()
            if turn < 6 or 250 < turn < 262 or turn > 505:
                self.check_empty(disk.blocks)

    def test_it_is_the_same_disk_that_is_written_to(self):
        pair = used_pair(self, 3, 90)
        entries = len(pair.disk.log)
        files = formatted(pair.disk)
        self.check_writing(pair.disk.log[entries:], 90)
        self.same(files, Model())
        files.make("/a", "file")
        self.same(mounted(pair.disk), Model())
        files.sync()
        self.assertEqual(mounted(pair.disk).names(0), [("a", 1)])


class Mounted(FilesCase):
    def test_only_what_was_synced_is_there(self):
        pair = Pair(self, 60)
        pair.do("make", "/a", "file")
        pair.do("write", 1, 0, [1, 2, 3])
        pair.check_mounted()
        self.assertEqual(pair.other_mounted().names(0), [])
        pair.do("snap", "s")
        pair.do("sync")
        pair.do("write", 1, 1, [9])
        pair.do("unsnap", "s")
        pair.check_mounted()
        self.assertEqual(pair.other_mounted().read(1, 0, 9), [1, 2, 3])
        self.assertEqual(pair.other_mounted().snaps(), ["s"])
        pair.do("sync")
        self.assertEqual(pair.other_mounted().read(1, 0, 9), [1, 9, 3])
        self.assertEqual(pair.other_mounted().snaps(), [])

    def test_files_of_every_size(self):
        pair = Pair(self, 60)
        pair.do("make", "/a", "file")
        for size in range(601):
            row = [(place * 7 + size) % 256 for place in range(size)]
            pair.do("cut", 1, 0)
            self.assertEqual(pair.do("write", 1, 0, row), ("told", size))
            pair.do("sync")
            self.assertEqual(pair.other_mounted().read(1, 0, 1000), row)

    def test_directories_of_every_count_of_entries(self):
        pair = Pair(self, 90)
        pair.do("make", "/d", "dir")
        pair.do("make", "/f", "file")
        for count in range(1, 41):
            self.assertEqual(pair.do("link", "/f", "/d/n" + str(count * 7)), ("told", None))
            pair.do("sync")
            pair.check_mounted()

    def test_every_number_of_things(self):
        pair = Pair(self, 256)
        for number in range(1, 32):
            found = pair.do("make", "/n" + str(number), "dir" if number % 2 else "file")
            self.assertEqual(found, ("told", number))
            pair.do("sync")
            pair.check_mounted()

    def test_another_object_of_the_same_disk(self):
        disk = Disk(30)
        first = formatted(disk)
        first.make("/a", "file")
        first.sync()
        entries = len(disk.log)
        second = mounted(disk)
        self.assertIsNot(first, second)
        self.assertEqual(len(disk.log), entries)
        second.write(1, 0, [4])
        second.sync()
        self.assertEqual(mounted(disk).read(1, 0, 9), [4])

    def test_sync_of_nothing_new(self):
        pair = Pair(self, 16)
        for turn in range(5):
            self.assertEqual(pair.do("sync"), ("told", None))
            pair.check_mounted()
        pair.do("make", "/a", "file")
        for turn in range(5):
            pair.do("sync")
            pair.check_mounted()
        pair.mount_again()
        pair.do("sync")
        pair.check()
        pair.check_mounted()

    def test_only_formatted_and_sync_write(self):
        """Pair.do holds each deed to it; here what is asked, mounted and seen."""
        pair = used_pair(self, 5, 120)
        entries = len(pair.disk.log)
        for files in (pair.files, mounted(pair.disk)):
            shown(files)
            for name in files.snaps():
                shown(files.see(name))
        self.assertEqual(len(pair.disk.log), entries)

    def test_used_disks_go_on(self):
        for seed in range(8):
            with self.subTest(seed=seed):
                pair = used_pair(self, 40 + seed, 100)
                rng = random.Random(seed)
                draws = Draws(rng)
                for turn in range(20):
                    pair.mount_again()
                    pair.check()
                    for again in range(10):
                        pair.do(*draws.deed(pair.model, ALL_SORTS))
                    pair.do("sync")
                    pair.check_mounted()


class OtherBlocks(FilesCase):
    def mount_other(self, blocks):
        """NoFiles itself, or whole Files that can be gone on with. Tells whether there are Files."""
        disk = disk_of(blocks)
        try:
            files = mounted(disk)
        except NoFiles as refusal:
            self.assertIs(type(refusal), NoFiles)
            return False
        self.assertEqual(disk.log, [])
        self.check_whole(files)
        files.sync()
        self.assertEqual(shown(mounted(disk)), shown(files))
        return True

    def test_disks_of_noughts(self):
        for count in (16, 20, 256):
            self.refused(NoFiles, mounted, Disk(count))

    def test_noughts_but_for_one_block(self):
        rng = random.Random(2)
        for number in (0, 1, 2, 3, 15):
            for block in [None, (1,) * 64, (255,) * 64, tuple(range(64))] + [drawn_block(rng) for turn in range(5)]:
                blocks = [NOUGHTS] * 16
                blocks[number] = block
                self.mount_other(blocks)

    def test_unreadable_blocks(self):
        for count in (16, 256):
            self.assertFalse(self.mount_other([None] * count))
        for number in range(16):
            blocks = [NOUGHTS] * 16
            blocks[number] = None
            self.assertFalse(self.mount_other(blocks))

    def test_drawn_bytes(self):
        rng = random.Random(3)
        for turn in range(100):
            self.mount_other([drawn_block(rng) for number in range(rng.choice((16, 20, 256)))])
            self.mount_other([tuple(rng.choice((0, 1, 2, 3)) for place in range(64)) for number in range(16)])

    def test_one_block_put_otherwise(self):
        rng = random.Random(4)
        for seed in range(6):
            pair = used_pair(self, 60 + seed, rng.choice((30, 60, 120)))
            blocks = pair.disk.blocks
            for number in range(len(blocks)):
                place = rng.randrange(64)
                byte = blocks[number][:place] + (rng.randrange(256),) + blocks[number][place + 1:]
                for block in (byte, drawn_block(rng), None, NOUGHTS, blocks[rng.randrange(len(blocks))]):
                    self.mount_other(blocks[:number] + [block] + blocks[number + 1:])

    def test_every_byte_of_the_first_blocks_put_otherwise(self):
        rng = random.Random(5)
        blocks = used_pair(self, 70, 30).disk.blocks
        for number in range(6):
            for place in range(64):
                for byte in (0, 1, 255, blocks[number][place] ^ 1, rng.randrange(256)):
                    block = blocks[number][:place] + (byte,) + blocks[number][place + 1:]
                    self.mount_other(blocks[:number] + [block] + blocks[number + 1:])

    def test_two_blocks_exchanged(self):
        blocks = used_pair(self, 71, 24).disk.blocks
        for one in range(24):
            for other in range(one):
                exchanged = list(blocks)
                exchanged[one], exchanged[other] = blocks[other], blocks[one]
                self.mount_other(exchanged)

    def test_many_blocks_put_otherwise(self):
        rng = random.Random(6)
        for seed in range(6):
            blocks = used_pair(self, 80 + seed, 60).disk.blocks
            for turn in range(60):
                other = list(blocks)
                for number in rng.sample(range(60), rng.choice((2, 3, 10, 40))):
                    other[number] = rng.choice((None, NOUGHTS, drawn_block(rng), blocks[rng.randrange(60)]))
                self.mount_other(other)

    def test_of_two_good_heads_one_is_enough(self):
        """A sync of nothing new leaves both: damage of either one loses nothing."""
        for syncs in (1, 2, 255, 256, 257):
            pair = Pair(self, 30)
            pair.do("make", "/a", "file")
            for turn in range(syncs + 1):
                pair.do("sync")
            for head in (0, 1):
                good = pair.disk.blocks[head]
                others = [good[:place] + (good[place] ^ 5,) + good[place + 1:] for place in (0, 4, 6)]
                for block in [None, NOUGHTS] + others:
                    blocks = list(pair.disk.blocks)
                    blocks[head] = block
                    self.shows_one_of(blocks, [pair.model.shown()])

    def test_what_a_damaged_disk_shows_goes_on(self):
        """Behind damage of a head the other one's state is mounted: it is changed and synced on."""
        for seed in range(6):
            pair = Pair(self, 90)
            rng = random.Random(seed)
            draws = Draws(rng)
            for turn in range(30):
                pair.do(*draws.deed(pair.model, GROWING))
                pair.do("sync")
            for head in (0, 1):
                disk = disk_of(pair.disk.blocks[:head] + [None] + pair.disk.blocks[head + 1:])
                try:
                    files = mounted(disk)
                except NoFiles:
                    continue
                self.check_whole(files)
                files.make("/mended", "file")
                for turn in range(3):
                    files.sync()
                    self.assertEqual(shown(mounted(disk_of(disk.blocks))), shown(files))
