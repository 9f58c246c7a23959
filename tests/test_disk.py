import unittest

from plug import pulled
from stillpoint.disk import Disk, disk_of
from stillpoint.errors import TooGreat

NOUGHTS = (0,) * 64
ONES = (1,) * 64
GREATEST = (255,) * 64
ROW = tuple(range(64))


class DiskCase(unittest.TestCase):
    def same(self, found, expected):
        """As assertEqual, which works very long to show how long lists of blocks differ."""
        self.assertEqual(len(found), len(expected))
        wrong = [place for place in range(len(found)) if found[place] != expected[place]]
        self.assertEqual(wrong, [], "the places that differ")


class NewDisks(DiskCase):
    def test_blocks_are_noughts_and_the_log_is_empty(self):
        for count in (16, 17, 31, 64, 100, 255, 256):
            with self.subTest(count=count):
                disk = Disk(count)
                self.assertIs(type(disk.blocks), list)
                self.same(disk.blocks, [NOUGHTS] * count)
                self.assertIs(type(disk.log), list)
                self.assertEqual(disk.log, [])
                for number in range(count):
                    self.assertIs(type(disk.read(number)), tuple)
                    self.same(disk.read(number), NOUGHTS)

    def test_other_counts_are_too_great(self):
        counts = (15, 257, 0, 1, -1, -16, -17, -256, 258, 1000, 2 ** 40 - 1, 2 ** 40)
        for count in counts + (10 ** 30, -10 ** 30):
            with self.subTest(count=count):
                with self.assertRaises(TooGreat) as taken:
                    Disk(count)
                self.assertIs(type(taken.exception), TooGreat)

    def test_counts_of_more_digits_than_python_writes_are_too_great(self):
        for count in (10 ** 5000, -(10 ** 5000)):
            with self.assertRaises(TooGreat) as taken:
                Disk(count)
            self.assertIs(type(taken.exception), TooGreat)

    def test_disks_share_nothing(self):
        one, other = Disk(16), Disk(16)
        one.write(2, ONES)
        one.barrier()
        self.same(other.blocks, [NOUGHTS] * 16)
        self.assertEqual(other.log, [])


class ReadsAndWrites(DiskCase):
    def test_read_tells_what_was_written_last_and_others_stay(self):
        disk = Disk(16)
        self.assertIsNone(disk.write(0, ONES))
        self.assertIsNone(disk.write(15, GREATEST))
        self.assertIsNone(disk.write(7, ONES))
        self.assertIsNone(disk.write(7, ROW))
        expected = [NOUGHTS] * 16
        expected[0], expected[7], expected[15] = ONES, ROW, GREATEST
        self.same([disk.read(number) for number in range(16)], expected)
        self.same(disk.blocks, expected)

    def test_the_last_block_of_the_greatest_disk(self):
        disk = Disk(256)
        disk.write(255, ROW)
        self.same(disk.read(255), ROW)
        self.same(disk.blocks, [NOUGHTS] * 255 + [ROW])

    def test_the_log_holds_writes_and_barriers_in_their_order(self):
        disk = Disk(16)
        self.assertIsNone(disk.barrier())
        disk.write(3, ONES)
        disk.write(1, ROW)
        disk.write(3, ONES)
        disk.barrier()
        disk.barrier()
        disk.write(3, None)
        expected = [
            ("barrier",), ("write", 3, ONES), ("write", 1, ROW), ("write", 3, ONES),
            ("barrier",), ("barrier",), ("write", 3, None),
        ]
        self.same(disk.log, expected)
        self.assertEqual([type(entry) for entry in disk.log], [tuple] * len(expected))

    def test_barriers_leave_the_blocks(self):
        disk = Disk(16)
        disk.write(4, ROW)
        blocks = list(disk.blocks)
        disk.barrier()
        self.same(disk.blocks, blocks)

    def test_reads_are_not_logged(self):
        disk = Disk(16)
        disk.read(0)
        disk.read(15)
        self.assertEqual(disk.log, [])
        self.same(disk.blocks, [NOUGHTS] * 16)

    def test_a_block_may_be_none_and_readable_again(self):
        disk = Disk(16)
        disk.write(5, None)
        self.assertIsNone(disk.read(5))
        disk.write(5, ROW)
        self.same(disk.read(5), ROW)
        self.same(disk.log, [("write", 5, None), ("write", 5, ROW)])

    def test_what_the_asker_makes_of_the_fields_holds(self):
        disk = Disk(16)
        disk.write(2, ONES)
        disk.blocks[4] = None
        disk.log.clear()
        self.assertIsNone(disk.read(4))
        disk.write(6, ROW)
        self.same(disk.log, [("write", 6, ROW)])
        disk.log = []
        disk.blocks = [GREATEST] * 16
        disk.barrier()
        self.same(disk.read(6), GREATEST)
        self.same(disk.log, [("barrier",)])


class DisksOfBlocks(DiskCase):
    def test_has_the_blocks_and_an_empty_log(self):
        for count in (16, 17, 100, 255, 256):
            with self.subTest(count=count):
                blocks = [(number % 256,) * 64 for number in range(count)]
                blocks[3] = None
                disk = disk_of(blocks)
                self.assertIsInstance(disk, Disk)
                self.assertIs(type(disk.blocks), list)
                self.same(disk.blocks, blocks)
                self.same([disk.read(number) for number in range(count)], blocks)
                self.assertIs(type(disk.log), list)
                self.assertEqual(disk.log, [])

    def test_all_blocks_may_be_none(self):
        self.same(disk_of([None] * 16).blocks, [None] * 16)

    def test_a_list_somewhat_beyond_is_not_refused(self):
        for count in (15, 257):
            self.same(disk_of([ROW] * count).blocks, [ROW] * count)

    def test_the_list_stays_when_the_disk_is_written_to(self):
        blocks = [ROW] * 16
        disk = disk_of(blocks)
        disk.write(0, ONES)
        disk.write(15, None)
        disk.barrier()
        self.same(blocks, [ROW] * 16)

    def test_the_disk_stays_when_the_list_is_changed(self):
        blocks = [ROW] * 16
        disk = disk_of(blocks)
        blocks[0] = ONES
        blocks[1] = None
        blocks.append(ONES)
        self.same(disk.blocks, [ROW] * 16)
        blocks.clear()
        self.same(disk.blocks, [ROW] * 16)

    def test_the_disk_it_was_taken_from_stays(self):
        first = Disk(16)
        first.write(1, ONES)
        second = disk_of(first.blocks)
        second.write(1, ROW)
        first.write(2, GREATEST)
        self.same(first.read(1), ONES)
        self.same(second.read(2), NOUGHTS)
        self.same(first.log, [("write", 1, ONES), ("write", 2, GREATEST)])
        self.same(second.log, [("write", 1, ROW)])


class PulledPlugs(DiskCase):
    """[11] asks for no function: what it tells must be there to be read from the log."""

    def setUp(self):
        self.first = [ROW] * 16
        self.disk = disk_of(self.first)
        self.disk.write(3, NOUGHTS)
        self.disk.barrier()
        self.disk.write(3, ONES)
        self.disk.write(5, ONES)
        self.disk.barrier()
        self.disk.write(6, ONES)
        self.disk.write(6, GREATEST)

    def test_the_log_leads_to_all_that_the_document_allows(self):
        expected = []
        for third in (ROW, None, NOUGHTS):
            expected.append((third, ROW, ROW))
        for third in (NOUGHTS, None, ONES):
            for fifth in (ROW, None, ONES):
                expected.append((third, fifth, ROW))
        for sixth in (ROW, None, ONES, GREATEST):
            expected.append((ONES, ONES, sixth))
        found = {(left[3], left[5], left[6]) for left in pulled(self.first, self.disk.log)}
        self.assertEqual(found, set(expected))

    def test_one_of_them_is_the_disk_as_it_is(self):
        self.assertIn(self.disk.blocks, pulled(self.first, self.disk.log))

    def test_each_makes_a_disk(self):
        for left in pulled(self.first, self.disk.log):
            disk = disk_of(left)
            self.same([disk.read(number) for number in range(16)], left)
            self.assertEqual(disk.log, [])


if __name__ == "__main__":
    unittest.main()
