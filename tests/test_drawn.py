"""[20], [22], [40] to [45]: long drawn runs of all sorts of deeds against the model."""

import random

from cases import FilesCase, Pair
from draws import ALL_SORTS, GROWING, Draws


class DrawnRuns(FilesCase):
    def run_deeds(self, pair, draws, weights, many):
        told = {}
        for turn in range(many):
            deed = draws.deed(pair.model, weights)
            found = pair.do(*deed)
            told.setdefault(deed[0], set()).add(found[1] if found[0] == "refused" else "told")
            if found[0] == "refused" or turn % 5 == 0:
                pair.check()
            if deed[0] == "sync":
                pair.check_mounted()
        pair.check()
        return told

    def test_all_sorts_of_deeds(self):
        told = {}
        for seed in range(12):
            with self.subTest(seed=seed):
                rng = random.Random(seed)
                pair = Pair(self, rng.choice((140, 200, 256)))
                for name, answers in self.run_deeds(pair, Draws(rng), ALL_SORTS, 700).items():
                    told.setdefault(name, set()).update(answers)
        # The runs came upon all that a deed may answer.
        walk = {"told", "BadName", "NoThing", "NoDirectory"}
        self.assertEqual(told["find"], walk)
        self.assertEqual(told["make"] - {"NoRoom"}, walk | {"IsThere", "TooGreat"})
        self.assertEqual(told["link"] - {"NoRoom", "TooGreat"}, walk | {"WrongKind", "IsThere"})
        self.assertEqual(told["unlink"] - {"NoRoom"}, walk | {"WrongKind", "NotEmpty"})
        self.assertEqual(told["rename"] - {"NoRoom", "TooGreat"}, walk | {"WrongKind", "NotEmpty"})
        for name in ("write", "cut"):
            self.assertEqual(told[name] - {"NoRoom"}, {"told", "NoThing", "WrongKind", "TooGreat"})
        self.assertEqual(told["snap"] - {"NoRoom"}, {"told", "BadName", "IsThere", "TooGreat"})
        self.assertEqual(told["unsnap"] - {"NoRoom"}, {"told", "BadName", "NoThing"})
        self.assertEqual(told["sync"], {"told"})

    def test_full_directories(self):
        """Two directories and far more names than forty, so that both are full now and then."""
        names = ["k" + str(turn) for turn in range(90)]
        weights = {"link": 30, "make": 2, "rename": 8, "unlink": 2, "sync": 1}
        answers = {"link": set(), "rename": set()}
        for seed in range(4):
            with self.subTest(seed=seed):
                rng = random.Random(100 + seed)
                pair = Pair(self, 256)
                pair.do("make", "/k0", "dir")
                pair.do("make", "/k1", "file")
                draws = Draws(rng, names)
                draws.kinds = ("file",)
                told = self.run_deeds(pair, draws, weights, 600)
                for name in answers:
                    answers[name].update(told[name])
        self.assertIn("TooGreat", answers["link"])
        self.assertIn("TooGreat", answers["rename"])

    def test_growing_without_a_sync(self):
        for seed in range(6):
            with self.subTest(seed=seed):
                rng = random.Random(200 + seed)
                pair = Pair(self, 256)
                self.run_deeds(pair, Draws(rng), GROWING, 400)
                pair.do("sync")
                pair.check_mounted()

    def test_what_is_mounted_goes_on_alike(self):
        """The same deeds on Files that are mounted anew behind each sync, and on ones that aren't."""
        for seed in range(6):
            with self.subTest(seed=seed):
                rng = random.Random(300 + seed)
                count = rng.choice((40, 90, 256))
                lasting, changing = Pair(self, count), Pair(self, count)
                draws = Draws(rng)
                for turn in range(500):
                    deed = draws.deed(lasting.model, ALL_SORTS)
                    self.assertEqual(lasting.do(*deed), changing.do(*deed))
                    if deed[0] == "sync":
                        changing.mount_again()
                changing.check()
                lasting.check()
