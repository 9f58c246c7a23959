"""[10], [11], [30], THE PROMISE: the plug is pulled at every place of a sync's log."""

import random

from cases import FilesCase, Pair, shown
from draws import ALL_SORTS, GROWING, Draws
from plug import pulled, pulled_somehow, spans, steps, ways_left
from stillpoint.disk import disk_of
from stillpoint.files import mounted


class PulledSyncs(FilesCase):
    def synced(self, pair):
        """Syncs; tells the blocks ahead of it and its log."""
        blocks = list(pair.disk.blocks)
        pair.disk.log.clear()
        pair.do("sync")
        return blocks, list(pair.disk.log)

    def check_pulls(self, pair, lefts):
        """What is left shows the last sync, or the one ahead of it; tells which of them came up."""
        seen = set()
        ahead, behind = self.ahead.shown(), pair.model.as_synced().shown()
        for left in lefts:
            found = self.shows_one_of(left, (ahead, behind))
            if ahead != behind:
                seen.add("ahead" if found == ahead else "behind")
        return seen

    def check_sync(self, pair, rng, many):
        self.ahead = pair.model.as_synced()
        blocks, log = self.synced(pair)
        seen = self.check_pulls(pair, pulled_somehow(blocks, log, rng, many))
        if self.ahead.shown() != pair.model.as_synced().shown():
            self.assertEqual(seen, {"ahead", "behind"})
        # Behind the log's last barrier nothing is lost.
        self.assertEqual(spans(log)[-1], [])
        self.assertEqual(self.check_pulls(pair, [pair.disk.blocks]) - {"behind"}, set())
        pair.check_mounted()

    def test_every_way_of_small_syncs(self):
        pair = Pair(self, 30)
        for deeds in (
            [("make", "/a", "file")],
            [("write", 1, 0, [1] * 70)],
            [("snap", "s")],
            [("rename", "/a", "/b"), ("make", "/d", "dir")],
            [("rename", "/b", "/d/b")],
            [("unsnap", "s"), ("cut", 1, 0)],
            [("unlink", "/d/b"), ("snap", "t")],
            [],
        ):
            for deed in deeds:
                self.assertEqual(pair.do(*deed)[0], "told")
            self.ahead = pair.model.as_synced()
            blocks, log = self.synced(pair)
            self.check_pulls(pair, pulled(blocks, log))

    def test_drawn_syncs(self):
        for seed in range(10):
            with self.subTest(seed=seed):
                rng = random.Random(seed)
                pair = Pair(self, rng.choice((16, 24, 40, 90, 200)))
                draws = Draws(rng)
                for turn in range(12):
                    for again in range(rng.choice((1, 2, 5, 15))):
                        pair.do(*draws.deed(pair.model, GROWING))
                    self.check_sync(pair, rng, 30)

    def test_pulled_again_and_again(self):
        """Goes on from what was left: with the sync that was pulled, or without it."""
        for seed in range(12):
            with self.subTest(seed=seed):
                rng = random.Random(50 + seed)
                pair = Pair(self, rng.choice((16, 20, 40, 90, 140)))
                draws = Draws(rng)
                for turn in range(40):
                    for again in range(rng.choice((0, 1, 3, 10))):
                        pair.do(*draws.deed(pair.model, ALL_SORTS if turn % 2 else GROWING))
                    self.ahead = pair.model.as_synced()
                    blocks, log = self.synced(pair)
                    lefts = list(pulled_somehow(blocks, log, rng, 10))
                    self.check_pulls(pair, lefts)
                    left = rng.choice(lefts)
                    if shown(mounted(disk_of(left))) == self.ahead.shown():
                        pair.model = self.ahead
                    pair.mount_again(left)
                    pair.check()

    def test_pulled_often_in_the_same_sync(self):
        """The head in the midst of whose writing the plug was pulled stays unreadable for long."""
        rng = random.Random(9)
        pair = Pair(self, 60)
        draws = Draws(rng)
        for turn in range(8):
            pair.do(*draws.deed(pair.model, GROWING))
        pair.do("sync")
        for turn in range(30):
            for again in range(4):
                pair.do(*draws.deed(pair.model, GROWING))
            ahead = pair.model.as_synced()
            blocks, log = self.synced(pair)
            head = spans(log)[-2]
            self.assertEqual(len(head), 1)
            left = list(pair.disk.blocks)
            left[head[0][1]] = None
            pair.model = ahead
            pair.mount_again(left)
            pair.check()

    def test_one_log_of_many_syncs(self):
        """Of what was pulled anywhere in a long log the sync under way, or the one ahead, is there."""
        rng = random.Random(10)
        pair = Pair(self, 60)
        draws = Draws(rng)
        blocks = list(pair.disk.blocks)
        pair.disk.log.clear()
        states = [pair.model.as_synced().shown()]
        barriers = [0]
        for turn in range(10):
            for again in range(4):
                pair.do(*draws.deed(pair.model, GROWING))
            pair.do("sync")
            states.append(pair.model.as_synced().shown())
            barriers.append(sum(1 for entry in pair.disk.log if entry[0] == "barrier"))
        for place, (ahead, choices) in enumerate(steps(blocks, pair.disk.log)):
            done = max(turn for turn in range(len(barriers)) if barriers[turn] <= place)
            for left in ways_left(ahead, choices, rng, 6):
                self.shows_one_of(left, states[done:done + 2])
