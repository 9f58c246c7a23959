"""[46]: NoRoom only where the sum of [46] is more than the disk's blocks; Pair.do holds each deed to it."""

import random

from cases import FilesCase, Pair
from draws import ALL_SORTS, Draws

ROUNDS = {
    "make": 10, "link": 3, "write": 14, "cut": 5, "unlink": 6, "rename": 10, "snap": 4, "unsnap": 4, "sync": 12,
}


class SmallDisks(FilesCase):
    def test_drawn_deeds(self):
        for count in (16, 17, 18, 19, 20, 24):
            refused = 0
            for seed in range(5):
                with self.subTest(count=count, seed=seed):
                    rng = random.Random(1000 * count + seed)
                    pair = Pair(self, count)
                    draws = Draws(rng)
                    for turn in range(300):
                        if pair.do(*draws.deed(pair.model, ROUNDS if seed % 2 else ALL_SORTS))[0] == "refused":
                            pair.check()
                    pair.do("sync")
                    pair.check_mounted()
                    refused += pair.no_rooms
            self.assertGreater(refused, 0)

    def test_what_must_have_room(self):
        """2, 4 ahead, 7 behind and 4 synced are 17."""
        for count in (17, 18, 20):
            for kind in ("file", "dir"):
                pair = Pair(self, count)
                self.assertEqual(pair.do("make", "/a", kind), ("told", 1))
                pair.do("sync")
                pair.check_mounted()
        # 2, 7, 7 and 4, and a snapshot of 7 ahead of the call or behind it
        pair = Pair(self, 27)
        pair.do("make", "/a", "file")
        self.assertEqual(pair.do("snap", "s"), ("told", None))
        self.assertEqual(pair.do("unsnap", "s"), ("told", None))

    def test_more_than_there_is_room_for(self):
        pair = Pair(self, 16)
        rng = random.Random(7)
        for turn in range(31):
            pair.do("make", "/n" + str(turn), "file")
            pair.do("write", 1, 0, [rng.randrange(256) for place in range(600)])
            pair.do("write", turn + 1, 0, [rng.randrange(256) for place in range(100)])
            pair.do("sync")
            pair.check_mounted()
        self.assertGreater(pair.no_rooms, 0)
        pair.check()
        for name, number in list(pair.model.now.names(0)):
            pair.do("unlink", "/" + name)
            pair.do("sync")
            pair.check_mounted()


class UsedDisks(FilesCase):
    def test_many_rounds(self):
        for seed in range(8):
            with self.subTest(seed=seed):
                rng = random.Random(seed)
                pair = Pair(self, rng.choice((100, 110, 120, 140)))
                draws = Draws(rng)
                for turn in range(500):
                    deed = draws.deed(pair.model, ROUNDS)
                    pair.do(*deed)
                    if deed[0] == "sync":
                        pair.check_mounted()
                pair.check()

    def test_nothing_is_lost_however_often_things_are_written(self):
        """The greatest file there is room for, by [46], is written anew with a sync each time."""
        # 2, and three times a state of 2, a root of 3 and a file of 21
        pair = Pair(self, 80)
        rng = random.Random(8)
        self.assertEqual(pair.do("make", "/a", "file"), ("told", 1))
        for turn in range(150):
            row = [rng.randrange(256) for place in range(600)]
            self.assertEqual(pair.do("write", 1, 0, row), ("told", 600))
            pair.do("sync")
        for turn in range(150):
            self.assertEqual(pair.do("rename", "/a", "/b")[0], "told")
            self.assertEqual(pair.do("rename", "/b", "/a")[0], "told")
            self.assertEqual(pair.do("cut", 1, rng.randrange(601))[0], "told")
            pair.do("sync")
            self.assertEqual(pair.do("write", 1, 500, [turn % 256] * 100)[0], "told")
            self.assertEqual(pair.do("unlink", "/a")[0], "told")
            self.assertEqual(pair.do("make", "/a", "file"), ("told", 1))
            pair.do("sync")
            pair.check_mounted()

    def test_snapshots_kept_and_forgotten(self):
        """A state of 2, a root of 3 and a file of 12, four of these ahead, behind and synced."""
        pair = Pair(self, 2 + 3 * 4 * 17)
        rng = random.Random(9)
        pair.do("make", "/a", "file")
        for turn in range(100):
            row = [rng.randrange(256) for place in range(320)]
            self.assertEqual(pair.do("write", 1, 0, row), ("told", 320))
            pair.do("sync")
            if len(pair.model.kept) == 3:
                self.assertEqual(pair.do("unsnap", rng.choice(sorted(pair.model.kept)))[0], "told")
            self.assertEqual(pair.do("snap", "s" + str(turn))[0], "told")
            if turn % 3 == 0:
                pair.do("sync")
                pair.check_mounted()

    def test_a_refused_deed_leaves_what_a_sync_puts_on_the_disk(self):
        pair = Pair(self, 20)
        rng = random.Random(11)
        pair.do("make", "/a", "file")
        pair.do("write", 1, 0, [1, 2, 3])
        found = pair.do("write", 1, 0, [rng.randrange(256) for place in range(600)])
        while found != ("refused", "NoRoom"):
            pair.do("snap", "s" + str(len(pair.model.kept)))
            found = pair.do("write", 1, 0, [rng.randrange(256) for place in range(600)])
        pair.do("sync")
        pair.check()
        pair.check_mounted()
