"""Drawn deeds: of all sorts, most of them possible, some refused."""

WRONG_PATHS = (
    "", "a", "//", "/a/", "/.", "/a/..", "/abcdefghi", "/a b", "/a" * 31, "/a//b", "/*", "/" + "a" * 60,
)
WRONG_NAMES = ("", ".", "..", "abcdefghi", "a b", "/", "a/b", "~")
NAMES = ("a", "b", "c", "d", "E", "f.1", "_", "-x", "abcdefgh")


class Draws:
    def __init__(self, rng, names=NAMES):
        self.rng = rng
        self.names = names
        self.kinds = ("file", "file", "dir")

    def paths(self, things, at=0, path="/", kinds=("file", "dir")):
        """All paths of a model's things of those kinds; some may be too long for a path."""
        found = [path] if things.stat(at)[0] in kinds else []
        if at in things.entries:
            for name, number in things.names(at):
                found.extend(self.paths(things, number, path.rstrip("/") + "/" + name, kinds))
        return found

    def old_path(self, things):
        if self.rng.random() < 0.04:
            return self.rng.choice(WRONG_PATHS)
        return self.rng.choice(self.paths(things))

    def new_path(self, things):
        """Mostly a name below a directory, which may be there or not."""
        chance = self.rng.random()
        if chance < 0.15:
            return self.old_path(things)
        if chance < 0.2:
            return "/".join([""] + [self.rng.choice(self.names) for turn in range(3)])
        places = self.paths(things, kinds=("dir",) if chance < 0.9 else ("file", "dir"))
        return self.rng.choice(places).rstrip("/") + "/" + self.rng.choice(self.names)

    def number(self, things):
        if self.rng.random() < 0.1 or not things.bytes:
            return self.rng.randrange(-2, 34)
        return self.rng.choice(sorted(things.bytes))

    def row(self):
        count = self.rng.choice((0, 1, 2, 5, 31, 32, 33, 62, 63, 64, 65, 126, 127, 200, 400))
        if self.rng.random() < 0.3:
            return [self.rng.randrange(256)] * count
        return [self.rng.randrange(256) for turn in range(count)]

    def start(self):
        return self.rng.choice((0, 0, 0, 1, 10, 63, 64, 100, 300, 536, 599, 600, 601, 2 ** 39))

    def deed(self, model, weights):
        """The name of a deed and its arguments, by a dict of names and weights."""
        name = self.rng.choices(list(weights), list(weights.values()))[0]
        things = model.now
        if name == "make":
            return (name, self.new_path(things), self.rng.choice(self.kinds))
        if name in ("link", "rename"):
            return (name, self.old_path(things), self.new_path(things))
        if name in ("unlink", "find"):
            return (name, self.old_path(things) if self.rng.random() < 0.8 else self.new_path(things))
        if name == "write":
            return (name, self.number(things), self.start(), self.row())
        if name == "cut":
            return (name, self.number(things), self.start())
        if name in ("snap", "unsnap"):
            return (name, self.rng.choice(("s1", "s2", "s3", "s4", "s5") + WRONG_NAMES))
        if name == "read":
            return (name, self.number(things), self.start(), self.start())
        if name in ("stat", "names"):
            return (name, self.rng.randrange(-2, 34))
        return (name,)


ALL_SORTS = {
    "make": 12, "link": 8, "unlink": 6, "rename": 12, "write": 14, "cut": 5, "snap": 4, "unsnap": 3,
    "sync": 4, "find": 4, "read": 3, "stat": 2, "names": 2, "snaps": 1,
}
GROWING = {"make": 12, "link": 5, "unlink": 2, "rename": 6, "write": 12, "cut": 3, "snap": 2, "unsnap": 1}
