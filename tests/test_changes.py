"""[20], [40] to [44]: what makes, links, unlinks, renames, writes and cuts do and refuse."""

from cases import FilesCase, Pair, shown
from stillpoint.disk import Disk
from stillpoint.errors import BadName, IsThere, NoDirectory, NoThing, NotEmpty, TooGreat, WrongKind
from stillpoint.files import formatted

BAD_PATHS = ("", "a", "//", "/a/", "/.", "/..", "/f/..", "/abcdefghi", "/a b", "/a" * 31, "x" * 100)


class ChangeCase(FilesCase):
    def setUp(self):
        self.files = formatted(Disk(256))
        self.f = self.files.make("/f", "file")
        self.d = self.files.make("/d", "dir")
        self.e = self.files.make("/d/e", "dir")
        self.g = self.files.make("/d/g", "file")

    def tearDown(self):
        self.check_whole(self.files)

    def unchanged(self, refusal, call, *args):
        ahead = shown(self.files)
        self.refused(refusal, call, *args)
        self.assertEqual(shown(self.files), ahead)

    def fill(self, path, many=40):
        """Entries for a directory until it has so many, all of them names of one file."""
        number = self.files.find(path)
        for turn in range(many - len(self.files.names(number))):
            self.files.link("/f", path.rstrip("/") + "/x" + str(turn))
        self.assertEqual(self.files.stat(number)[2], 10 * many)


class Makes(ChangeCase):
    def test_the_least_free_number(self):
        self.assertEqual((self.f, self.d, self.e, self.g), (1, 2, 3, 4))
        self.files.unlink("/d/e")
        self.files.unlink("/f")
        self.assertEqual(self.files.make("/n", "dir"), 1)
        self.assertEqual(self.files.make("/m", "file"), 3)
        self.assertEqual(self.files.make("/k", "file"), 5)
        self.assertEqual(self.files.stat(1), ("dir", 1, 0))
        self.assertEqual(self.files.stat(3), ("file", 1, 0))

    def test_refusals(self):
        for kind in ("file", "dir"):
            for path in BAD_PATHS:
                self.unchanged(BadName, self.files.make, path, kind)
            self.unchanged(NoDirectory, self.files.make, "/f/x", kind)
            self.unchanged(NoDirectory, self.files.make, "/d/g/x/y", kind)
            self.unchanged(NoThing, self.files.make, "/x/y", kind)
            self.unchanged(NoThing, self.files.make, "/d/x/y", kind)
            for path in ("/", "/f", "/d", "/d/e", "/d/g"):
                self.unchanged(IsThere, self.files.make, path, kind)

    def test_thirty_one_things_below_the_root_and_no_more(self):
        for number in range(5, 32):
            self.assertEqual(self.files.make("/d/e/n" + str(number), "file"), number)
        for kind in ("file", "dir"):
            self.unchanged(TooGreat, self.files.make, "/x", kind)
            self.unchanged(IsThere, self.files.make, "/f", kind)
            self.unchanged(NoThing, self.files.make, "/x/y", kind)
            self.unchanged(NoDirectory, self.files.make, "/f/y", kind)
            self.unchanged(BadName, self.files.make, "/x/", kind)
        self.files.link("/f", "/x")
        self.files.unlink("/d/e/n17")
        self.assertEqual(self.files.make("/y", "dir"), 17)
        self.unchanged(TooGreat, self.files.make, "/z", "dir")

    def test_forty_entries_and_no_more(self):
        for path in ("/", "/d"):
            self.fill(path)
            name = path.rstrip("/") + "/new"
            self.unchanged(TooGreat, self.files.make, name, "file")
            self.unchanged(TooGreat, self.files.make, name, "dir")
            self.unchanged(TooGreat, self.files.link, "/d/g", name)
            self.unchanged(IsThere, self.files.make, path.rstrip("/") + "/x0", "file")
            self.unchanged(IsThere, self.files.link, "/f", path.rstrip("/") + "/x0")
            self.files.unlink(path.rstrip("/") + "/x0")
            self.files.make(name, "dir")
            self.unchanged(TooGreat, self.files.make, path.rstrip("/") + "/x0", "file")


class Links(ChangeCase):
    def test_two_names_are_one_file(self):
        self.assertIsNone(self.files.link("/f", "/d/e/h"))
        self.assertEqual(self.files.find("/d/e/h"), self.f)
        self.files.write(self.files.find("/d/e/h"), 2, [5])
        self.assertEqual(self.files.read(self.files.find("/f"), 0, 9), [0, 0, 5])
        self.files.unlink("/f")
        self.assertEqual(self.files.stat(self.f), ("file", 1, 3))
        self.files.unlink("/d/e/h")
        self.unchanged(NoThing, self.files.stat, self.f)
        self.assertEqual(self.files.make("/again", "file"), self.f)
        self.assertEqual(self.files.read(self.f, 0, 9), [])

    def test_refusals(self):
        for path in BAD_PATHS:
            self.unchanged(BadName, self.files.link, path, "/n")
            self.unchanged(BadName, self.files.link, "/f", path)
            self.unchanged(BadName, self.files.link, "/none", path)
            self.unchanged(BadName, self.files.link, "/d", path)
        self.unchanged(NoThing, self.files.link, "/none", "/f")
        self.unchanged(NoDirectory, self.files.link, "/f/x", "/f")
        self.unchanged(NoThing, self.files.link, "/none", "/f/x")
        for path in ("/", "/d", "/d/e"):
            self.unchanged(WrongKind, self.files.link, path, "/n")
            self.unchanged(WrongKind, self.files.link, path, "/")
            self.unchanged(WrongKind, self.files.link, path, "/f/x")
            self.unchanged(WrongKind, self.files.link, path, "/f")
        self.unchanged(NoDirectory, self.files.link, "/f", "/f/x")
        self.unchanged(NoDirectory, self.files.link, "/f", "/d/g/x")
        self.unchanged(NoThing, self.files.link, "/f", "/x/y")
        for path in ("/", "/f", "/d", "/d/g"):
            self.unchanged(IsThere, self.files.link, "/f", path)


class Unlinks(ChangeCase):
    def test_a_directory_goes_when_it_is_empty(self):
        self.unchanged(NotEmpty, self.files.unlink, "/d")
        self.assertIsNone(self.files.unlink("/d/e"))
        self.assertIsNone(self.files.unlink("/d/g"))
        self.assertIsNone(self.files.unlink("/d"))
        for number in (self.d, self.e, self.g):
            self.unchanged(NoThing, self.files.stat, number)
        self.unchanged(NoThing, self.files.find, "/d")
        self.assertEqual(self.files.names(0), [("f", self.f)])

    def test_refusals(self):
        for path in BAD_PATHS:
            self.unchanged(BadName, self.files.unlink, path)
        self.unchanged(NoThing, self.files.unlink, "/x")
        self.unchanged(NoThing, self.files.unlink, "/x/y")
        self.unchanged(NoDirectory, self.files.unlink, "/f/x")
        self.unchanged(WrongKind, self.files.unlink, "/")
        self.unchanged(WrongKind, formatted(Disk(20)).unlink, "/")


class Renames(ChangeCase):
    def test_a_file_and_a_directory(self):
        self.assertIsNone(self.files.rename("/f", "/d/e/h"))
        self.assertEqual(self.files.find("/d/e/h"), self.f)
        self.unchanged(NoThing, self.files.find, "/f")
        self.assertIsNone(self.files.rename("/d/e", "/k"))
        self.assertEqual(self.files.find("/k/h"), self.f)
        self.assertEqual(self.files.names(0), [("d", self.d), ("k", self.e)])
        self.assertEqual(self.files.names(self.d), [("g", self.g)])
        self.assertIsNone(self.files.rename("/k", "/m"))
        self.assertEqual(self.files.find("/m/h"), self.f)

    def test_in_the_place_of_another(self):
        self.files.write(self.f, 0, [1])
        self.files.write(self.g, 0, [2])
        self.files.rename("/d/g", "/f")
        self.assertEqual(self.files.find("/f"), self.g)
        self.assertEqual(self.files.read(self.g, 0, 9), [2])
        self.unchanged(NoThing, self.files.stat, self.f)
        self.files.make("/k", "dir")
        self.files.rename("/d", "/k")
        self.assertEqual(self.files.find("/k/e"), self.e)
        self.assertEqual(self.files.names(0), [("f", self.g), ("k", self.d)])

    def test_one_of_two_names_is_taken_over(self):
        self.files.link("/f", "/d/h")
        self.files.rename("/d/g", "/d/h")
        self.assertEqual(self.files.stat(self.f), ("file", 1, 0))
        self.assertEqual(self.files.stat(self.g), ("file", 1, 0))
        self.assertEqual(self.files.find("/d/h"), self.g)

    def test_over_the_same_thing_nothing_changes(self):
        self.files.link("/f", "/d/h")
        for old, new in (("/f", "/d/h"), ("/d/h", "/f"), ("/f", "/f"), ("/d", "/d"), ("/d/e", "/d/e")):
            ahead = shown(self.files)
            self.assertIsNone(self.files.rename(old, new))
            self.assertEqual(shown(self.files), ahead)

    def test_into_itself(self):
        self.files.make("/d/e/i", "dir")
        for new in ("/d/n", "/d/e", "/d/e/n", "/d/e/i/n", "/d/g", "/d/e/i"):
            self.unchanged(WrongKind, self.files.rename, "/d", new)
        self.unchanged(WrongKind, self.files.rename, "/d/e", "/d/e/i")
        self.unchanged(NotEmpty, self.files.rename, "/d/e", "/d")
        self.unchanged(NotEmpty, self.files.rename, "/d/e/i", "/d/e")
        self.unchanged(NoDirectory, self.files.rename, "/f", "/f/n")
        self.unchanged(NoThing, self.files.rename, "/d", "/d/x/y")
        self.unchanged(NoDirectory, self.files.rename, "/d", "/d/g/y")

    def test_refusals(self):
        for path in BAD_PATHS:
            self.unchanged(BadName, self.files.rename, path, "/n")
            self.unchanged(BadName, self.files.rename, "/none", path)
            self.unchanged(BadName, self.files.rename, "/", path)
        self.unchanged(NoThing, self.files.rename, "/none", "/")
        self.unchanged(NoDirectory, self.files.rename, "/f/x", "/")
        self.unchanged(NoThing, self.files.rename, "/none", "/f/x")
        for old, new in (("/", "/n"), ("/f", "/"), ("/d", "/"), ("/", "/"), ("/", "/f/x"), ("/", "/x/y")):
            self.unchanged(WrongKind, self.files.rename, old, new)
        self.unchanged(NoThing, self.files.rename, "/f", "/x/y")
        self.unchanged(NoDirectory, self.files.rename, "/d", "/f/y")
        self.unchanged(WrongKind, self.files.rename, "/f", "/d")
        self.unchanged(WrongKind, self.files.rename, "/f", "/d/e")
        self.unchanged(WrongKind, self.files.rename, "/d", "/f")
        self.unchanged(WrongKind, self.files.rename, "/d/e", "/d/g")
        self.files.make("/k", "dir")
        self.unchanged(NotEmpty, self.files.rename, "/k", "/d")

    def test_a_full_directory(self):
        self.files.make("/k", "dir")
        self.files.make("/k/e", "dir")
        self.fill("/d")
        self.unchanged(TooGreat, self.files.rename, "/f", "/d/new")
        self.unchanged(TooGreat, self.files.rename, "/k", "/d/new")
        self.unchanged(TooGreat, self.files.rename, "/k/e", "/d/new")
        self.files.rename("/d/g", "/d/new")
        self.files.rename("/d/e", "/d/newdir")
        self.files.rename("/d/newdir", "/d/e")
        self.assertEqual(len(self.files.names(self.d)), 40)
        self.files.rename("/k/e", "/d/e")
        self.assertEqual(len(self.files.names(self.d)), 40)
        self.files.rename("/d/new", "/g")
        self.files.rename("/g", "/d/x0")
        self.assertEqual(len(self.files.names(self.d)), 39)
        self.files.rename("/k", "/d/k")
        self.unchanged(TooGreat, self.files.rename, "/f", "/d/new")


class WritesAndCuts(ChangeCase):
    def bytes(self):
        return self.files.read(self.f, 0, 2 ** 40 - 1)

    def test_ahead_of_at_and_behind_the_end(self):
        self.assertEqual(self.files.write(self.f, 0, [1, 2, 3, 4]), 4)
        self.assertEqual(self.bytes(), [1, 2, 3, 4])
        self.assertEqual(self.files.write(self.f, 1, [9]), 1)
        self.assertEqual(self.bytes(), [1, 9, 3, 4])
        self.assertEqual(self.files.write(self.f, 3, [7, 8]), 2)
        self.assertEqual(self.bytes(), [1, 9, 3, 7, 8])
        self.assertEqual(self.files.write(self.f, 5, [6]), 1)
        self.assertEqual(self.bytes(), [1, 9, 3, 7, 8, 6])
        self.assertEqual(self.files.write(self.f, 9, [255, 0]), 2)
        self.assertEqual(self.bytes(), [1, 9, 3, 7, 8, 6, 0, 0, 0, 255, 0])
        self.assertEqual(self.files.stat(self.f), ("file", 1, 11))

    def test_up_to_six_hundred_and_no_more(self):
        self.assertEqual(self.files.write(self.f, 599, [5]), 1)
        self.assertEqual(self.bytes(), [0] * 599 + [5])
        row = [place % 256 for place in range(600)]
        self.assertEqual(self.files.write(self.f, 0, row), 600)
        self.assertEqual(self.bytes(), row)
        for start, many in ((600, 1), (599, 2), (0, 601), (1, 600), (601, 1), (2 ** 40 - 1, 1), (2 ** 39, 700)):
            self.unchanged(TooGreat, self.files.write, self.f, start, [1] * many)

    def test_an_empty_row(self):
        self.files.write(self.f, 0, [1, 2])
        for start in (0, 1, 2, 3, 100, 599, 600):
            self.assertEqual(self.files.write(self.f, start, []), 0)
            self.assertEqual(self.bytes(), [1, 2])
        for start in (601, 602, 1000, 2 ** 40 - 1):
            self.unchanged(TooGreat, self.files.write, self.f, start, [])

    def test_cuts(self):
        self.files.write(self.f, 0, [1, 2, 3])
        for size, expected in ((3, [1, 2, 3]), (2, [1, 2]), (4, [1, 2, 0, 0]), (0, []), (3, [0, 0, 0])):
            self.assertIsNone(self.files.cut(self.f, size))
            self.assertEqual(self.bytes(), expected)
        self.files.write(self.f, 0, [4])
        self.files.cut(self.f, 600)
        self.assertEqual(self.bytes(), [4] + [0] * 599)
        for size in (601, 602, 1000, 2 ** 40 - 1):
            self.unchanged(TooGreat, self.files.cut, self.f, size)

    def test_what_was_cut_off_never_comes_back(self):
        self.files.write(self.f, 0, [1, 2, 3, 4])
        self.files.cut(self.f, 1)
        self.files.write(self.f, 3, [9])
        self.assertEqual(self.bytes(), [1, 0, 0, 9])

    def test_refusals_in_their_order(self):
        for number in (-1, 5, 31, 32, 33, 2 ** 40, 10 ** 5000, -(10 ** 5000)):
            self.unchanged(NoThing, self.files.write, number, 700, [])
            self.unchanged(NoThing, self.files.write, number, 0, [1])
            self.unchanged(NoThing, self.files.cut, number, 700)
            self.unchanged(NoThing, self.files.cut, number, 0)
        for number in (0, self.d, self.e):
            self.unchanged(WrongKind, self.files.write, number, 700, [1])
            self.unchanged(WrongKind, self.files.write, number, 0, [])
            self.unchanged(WrongKind, self.files.cut, number, 700)
            self.unchanged(WrongKind, self.files.cut, number, 0)

    def test_what_was_handed_in_stays_and_is_not_kept(self):
        row = [1, 2, 3]
        self.files.write(self.f, 2, row)
        self.assertEqual(row, [1, 2, 3])
        row[0] = 99
        row.append(4)
        self.assertEqual(self.bytes(), [0, 0, 1, 2, 3])
        row.clear()
        self.assertEqual(self.bytes(), [0, 0, 1, 2, 3])


class BehindASync(FilesCase):
    def test_bounds_are_mounted(self):
        pair = Pair(self, 256)
        for number in range(1, 32):
            pair.do("make", "/n" + str(number), "dir" if number < 4 else "file")
        for turn in range(9):
            pair.do("link", "/n31", "/x" + str(turn))
        for turn in range(40):
            pair.do("link", "/n30", "/n1/y" + str(turn))
        pair.do("write", 31, 0, [place % 251 for place in range(600)])
        pair.do("write", 4, 599, [1])
        for name in ("a", "b", "c"):
            pair.do("snap", name)
        pair.do("sync")
        self.assertEqual(pair.no_rooms, 0)
        for turn in range(2):
            pair.check()
            for refused in (
                ("make", "/z", "file"), ("link", "/n9", "/z"), ("make", "/n2/z", "file"), ("link", "/n9", "/n1/z"),
                ("rename", "/n9", "/n1/z"), ("snap", "d"), ("write", 31, 600, [1]), ("cut", 31, 601),
            ):
                self.assertEqual(pair.do(*refused), ("refused", "TooGreat"))
            pair.check()
            pair.mount_again()
        pair.do("rename", "/n9", "/n2/z")
        pair.do("unlink", "/n2/z")
        self.assertEqual(pair.do("make", "/n2/k", "file"), ("told", 9))
        pair.do("sync")
        pair.check_mounted()
