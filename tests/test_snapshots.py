"""[22], [32], [45]: snapshots show for ever what they showed first; views may only be read."""

import random

from cases import FilesCase, Pair, shown, shown_state
from draws import ALL_SORTS, Draws
from stillpoint.disk import Disk, disk_of
from stillpoint.errors import BadName, IsThere, NoThing, ReadOnly, TooGreat
from stillpoint.files import formatted, mounted

BAD_NAMES = ("", ".", "..", "abcdefghi", "a b", "/", "/a", "a/b", "~", "x" * 100)


class SnapAndUnsnap(FilesCase):
    def setUp(self):
        self.files = formatted(Disk(100))
        self.files.make("/a", "file")

    def unchanged(self, refusal, call, *args):
        ahead = shown(self.files)
        self.refused(refusal, call, *args)
        self.assertEqual(shown(self.files), ahead)

    def test_at_most_three(self):
        for name in ("one", "two", "three"):
            self.assertIsNone(self.files.snap(name))
        self.unchanged(TooGreat, self.files.snap, "four")
        self.unchanged(IsThere, self.files.snap, "two")
        self.unchanged(BadName, self.files.snap, "a b")
        self.assertIsNone(self.files.unsnap("two"))
        self.assertEqual(self.files.snaps(), ["one", "three"])
        self.assertIsNone(self.files.snap("four"))
        self.unchanged(TooGreat, self.files.snap, "two")

    def test_refusals(self):
        self.files.snap("s")
        for name in BAD_NAMES:
            self.unchanged(BadName, self.files.snap, name)
            self.unchanged(BadName, self.files.unsnap, name)
        self.unchanged(IsThere, self.files.snap, "s")
        for name in ("t", "S", "abcdefgh", "..."):
            self.unchanged(NoThing, self.files.unsnap, name)
        self.files.unsnap("s")
        self.unchanged(NoThing, self.files.unsnap, "s")

    def test_every_sign_of_a_name_is_kept(self):
        pair = Pair(self, 100)
        signs = "ABCDEFGHIJKLMNOPQRSTUVWXYZabcdefghijklmnopqrstuvwxyz0123456789._-"
        names = [signs[place:place + 8] for place in range(0, len(signs), 8)] + ["...", ".-", "_"]
        for name in names:
            pair.do("make", "/" + name, "dir")
        for place in range(0, len(names), 3):
            for name in names[place:place + 3]:
                self.assertEqual(pair.do("snap", name), ("told", None))
            pair.do("sync")
            pair.check_mounted()
            for name in names[place:place + 3]:
                pair.do("unsnap", name)

    def test_from_the_next_sync_on_on_the_disk(self):
        pair = Pair(self, 100)
        pair.do("make", "/a", "file")
        pair.do("snap", "s")
        pair.do("write", 1, 0, [1])
        self.assertEqual(pair.other_mounted().snaps(), [])
        pair.do("sync")
        self.assertEqual(pair.other_mounted().see("s").stat(1), ("file", 1, 0))
        pair.do("unsnap", "s")
        self.assertEqual(pair.other_mounted().snaps(), ["s"])
        pair.do("sync")
        self.assertEqual(pair.other_mounted().snaps(), [])


class Views(FilesCase):
    def setUp(self):
        self.files = formatted(Disk(200))
        self.files.make("/a", "file")
        self.files.write(1, 0, [1, 2, 3])
        self.files.make("/d", "dir")
        self.files.snap("s")
        self.view = self.files.see("s")

    def test_all_that_changes_is_read_only_ahead_of_all_else(self):
        ahead = shown(self.view)
        for view in (self.view, self.view.see("s")):
            for path in ("/a", "/d", "/n", "/x/y", "/a/b", "/", "", "/a b", "x" * 100):
                for kind in ("file", "dir"):
                    self.refused(ReadOnly, view.make, path, kind)
                self.refused(ReadOnly, view.unlink, path)
                for other in ("/a", "/n", "/", "..", "/x/y"):
                    self.refused(ReadOnly, view.link, path, other)
                    self.refused(ReadOnly, view.rename, path, other)
            for number in (-1, 0, 1, 2, 31, 32, 10 ** 5000):
                for size in (0, 1, 600, 601):
                    self.refused(ReadOnly, view.write, number, size, [])
                    self.refused(ReadOnly, view.write, number, size, [1])
                    self.refused(ReadOnly, view.cut, number, size)
            for name in ("s", "t", "", "a b"):
                self.refused(ReadOnly, view.snap, name)
                self.refused(ReadOnly, view.unsnap, name)
            self.refused(ReadOnly, view.sync)
        self.assertEqual(shown(self.view), ahead)

    def test_what_is_asked_is_refused_as_ever(self):
        self.refused(BadName, self.view.find, "/a b")
        self.refused(NoThing, self.view.find, "/n")
        self.refused(NoThing, self.view.stat, 3)
        self.refused(NoThing, self.view.see, "t")
        self.refused(BadName, self.view.see, "a b")

    def test_a_view_has_the_snapshots_of_its_files_as_they_were_then(self):
        early = self.files.see("s")
        self.files.unlink("/d")
        self.files.snap("t")
        late = self.files.see("s")
        inner = self.files.see("t").see("s")
        self.files.unsnap("s")
        self.files.snap("u")
        self.assertEqual(early.snaps(), ["s"])
        self.assertEqual(late.snaps(), ["s", "t"])
        self.assertEqual(inner.snaps(), ["s", "t"])
        self.assertEqual(self.files.snaps(), ["t", "u"])
        self.refused(NoThing, early.see, "t")
        self.assertEqual(late.see("t").names(0), [("a", 1)])
        self.assertEqual(late.see("s").names(0), [("a", 1), ("d", 2)])
        self.assertEqual(shown_state(inner), shown_state(early))

    def test_the_name_may_be_used_again(self):
        self.files.write(1, 0, [9])
        self.files.unsnap("s")
        self.files.snap("s")
        self.assertEqual(self.view.read(1, 0, 9), [1, 2, 3])
        self.assertEqual(self.files.see("s").read(1, 0, 9), [9, 2, 3])
        self.files.sync()
        self.assertEqual(self.view.see("s").read(1, 0, 9), [1, 2, 3])

    def test_through_drawn_deeds_syncs_and_mounts(self):
        for seed in range(8):
            rng = random.Random(seed)
            pair = Pair(self, 200)
            draws = Draws(rng)
            views = []
            for turn in range(300):
                ahead = set(pair.model.kept)
                pair.do(*draws.deed(pair.model, ALL_SORTS))
                for name in set(pair.model.kept) - ahead:
                    views.append((pair.files.see(name), shown(pair.files)))
                if turn % 50 == 49:
                    pair.do("sync")
                    pair.mount_again()
            for view, first in views:
                self.assertEqual(shown_state(view), first[0])
                self.assertEqual(shown(view)[1], first[1])
            for name in pair.files.snaps():
                self.assertEqual(shown_state(pair.files.see(name)), pair.model.kept[name].shown())

    def test_a_snapshot_of_what_was_never_synced(self):
        disk = Disk(100)
        files = formatted(disk)
        files.make("/a", "file")
        files.write(1, 0, [5])
        files.snap("s")
        files.unlink("/a")
        files.make("/b", "dir")
        files.sync()
        for again in (files, mounted(disk_of(disk.blocks))):
            self.assertEqual(again.see("s").read(again.see("s").find("/a"), 0, 9), [5])
            self.assertEqual(again.names(0), [("b", 1)])
            self.assertEqual(again.names(1), [])
