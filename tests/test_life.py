"""[30], [31], [45]: a long life of more than 256 syncs."""

import random

from cases import FilesCase, Pair, shown
from draws import GROWING, Draws
from plug import pulled_somehow

LIVING = {"make": 8, "link": 3, "unlink": 6, "rename": 8, "write": 10, "cut": 6}


class LongLife(FilesCase):
    def live(self, seed, count, syncs):
        rng = random.Random(seed)
        pair = Pair(self, count)
        draws = Draws(rng)
        for turn in range(5):
            pair.do(*draws.deed(pair.model, GROWING))
        for name in sorted(pair.model.kept):
            pair.do("unsnap", name)
        pair.do("snap", "early")
        early = pair.model.kept["early"].shown()
        for turn in range(syncs):
            for again in range(3):
                pair.do(*draws.deed(pair.model, LIVING))
            blocks = list(pair.disk.blocks)
            pair.disk.log.clear()
            ahead = pair.model.as_synced().shown()
            pair.do("sync")
            pair.check_mounted()
            self.assertEqual(shown(pair.files)[1], {"early": early})
            if turn % 17 == 0 or turn > syncs - 60:
                for left in pulled_somehow(blocks, pair.disk.log, rng, 3):
                    self.shows_one_of(left, (ahead, pair.model.as_synced().shown()))
            if turn % 23 == 0:
                pair.mount_again()
                pair.check()
        return pair

    def test_three_hundred_syncs(self):
        for seed, count in ((1, 60), (2, 75), (3, 90)):
            with self.subTest(count=count):
                self.live(seed, count, 300)

    def test_the_turn_goes_round_more_than_twice(self):
        pair = self.live(4, 60, 20)
        for turn in range(560):
            if turn % 2 == 0:
                pair.do("make", "/turn", "dir")
            else:
                pair.do("unlink", "/turn")
            pair.do("sync")
            pair.check_mounted()
