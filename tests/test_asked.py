"""[21], [32]: find, read, stat, names, snaps, see."""

from cases import FilesCase, shown
from stillpoint.disk import Disk
from stillpoint.errors import BadName, NoDirectory, NoThing, WrongKind
from stillpoint.files import Files, formatted

SIXTY = "/abcdefgh" * 6 + "/abcde"
NO_NUMBERS = (-1, -2, -32, 3, 31, 32, 33, 255, 256, 2 ** 40, 10 ** 30, -(10 ** 30), 10 ** 5000, -(10 ** 5000))


class Find(FilesCase):
    def setUp(self):
        self.files = formatted(Disk(256))
        self.numbers = {"/": 0}
        for path, kind in (("/d", "dir"), ("/d/e", "dir"), ("/d/f", "file"), ("/g", "file"), ("/d/e/f", "file")):
            self.numbers[path] = self.files.make(path, kind)

    def test_paths_that_are_there(self):
        for path, number in self.numbers.items():
            self.assertEqual(self.files.find(path), number)
            self.assertIs(type(self.files.find(path)), int)

    def test_through_a_file_there_is_no_directory(self):
        for path in ("/g/x", "/g/x/y", "/d/f/g", "/d/e/f/f", "/g/g/g/g"):
            with self.subTest(path=path):
                self.refused(NoDirectory, self.files.find, path)

    def test_what_is_not_there(self):
        for path in ("/x", "/D", "/d/x", "/d/e/x", "/x/y", "/d/x/y/z", "/f", "/e", "/d/g"):
            with self.subTest(path=path):
                self.refused(NoThing, self.files.find, path)

    def test_the_first_hindrance_from_the_left_counts(self):
        self.refused(NoThing, self.files.find, "/x/g/x")
        self.refused(NoDirectory, self.files.find, "/g/x/y")
        self.refused(NoThing, self.files.find, "/d/x/f")
        self.refused(NoDirectory, self.files.find, "/d/f/x")

    def test_what_is_no_path_is_a_bad_name_ahead_of_the_walk(self):
        for path in (
            "", "d", "d/e", "//", "/d/", "/d//e", "/.", "/..", "/d/.", "/d/..", "/d/../g", "/g/..", "/x/.",
            "/abcdefghi", "/g/abcdefghi", "/x/abcdefghi", "/d e", "/d/*", "/d/~", " ", "/ ", "x" * 100, "/g/",
        ):
            with self.subTest(path=path):
                self.refused(BadName, self.files.find, path)

    def test_sixty_signs_and_one_more(self):
        self.refused(NoThing, self.files.find, SIXTY)
        for many in range(1, 7):
            self.files.make("/abcdefgh" * many, "dir")
        number = self.files.make(SIXTY, "file")
        self.assertEqual(self.files.find(SIXTY), number)
        self.refused(BadName, self.files.find, SIXTY + "f")
        self.refused(BadName, self.files.make, SIXTY + "f", "file")

    def test_what_lies_deeper_than_paths_reach_is_there_all_the_same(self):
        files = formatted(Disk(256))
        for many in range(1, 30):
            files.make("/a" * many, "dir")
        number = files.make("/b", "dir")
        inner = files.make("/b/c", "file")
        files.write(inner, 0, [7])
        files.rename("/b", "/a" * 29 + "/b")
        self.assertEqual(files.find("/a" * 29 + "/b"), number)
        self.refused(BadName, files.find, "/a" * 29 + "/b/c")
        self.assertEqual(files.names(number), [("c", inner)])
        self.assertEqual(files.read(inner, 0, 9), [7])
        self.check_whole(files)


class Reads(FilesCase):
    def setUp(self):
        self.files = formatted(Disk(256))
        self.number = self.files.make("/f", "file")
        self.directory = self.files.make("/d", "dir")
        self.row = [(7 * place) % 256 for place in range(200)]
        self.files.write(self.number, 0, self.row)

    def test_from_start_on_so_many_at_most(self):
        for start in (0, 1, 62, 63, 64, 65, 199, 200, 201, 599, 600, 601, 2 ** 40 - 1):
            for many in (0, 1, 2, 63, 64, 199, 200, 201, 600, 601, 2 ** 40 - 1):
                found = self.files.read(self.number, start, many)
                self.assertIs(type(found), list)
                self.assertEqual(found, self.row[start:start + many])

    def test_an_empty_file(self):
        number = self.files.make("/e", "file")
        for start in (0, 1, 600, 2 ** 40 - 1):
            self.assertEqual(self.files.read(number, start, 10), [])

    def test_no_thing_and_wrong_kind(self):
        for number in NO_NUMBERS:
            self.refused(NoThing, self.files.read, number, 0, 10)
        self.refused(WrongKind, self.files.read, 0, 0, 10)
        self.refused(WrongKind, self.files.read, self.directory, 700, 0)

    def test_a_told_list_is_the_askers_own(self):
        for many in (200, 600):
            self.files.read(self.number, 0, many).append(1)
            found = self.files.read(self.number, 0, many)
            found[3] = 99
            found.clear()
            self.assertEqual(self.files.read(self.number, 0, many), self.row)
        self.files.names(0).clear()
        found = self.files.names(0)
        found[0] = ("x", 9)
        self.assertEqual(self.files.names(0), [("d", self.directory), ("f", self.number)])
        self.files.snap("s")
        self.files.snaps().append("t")
        self.files.snaps().clear()
        self.assertEqual(self.files.snaps(), ["s"])
        view = self.files.see("s")
        view.snaps().clear()
        view.names(0).clear()
        view.read(self.number, 0, 9).clear()
        self.assertEqual(shown(view), shown(self.files))


class StatsAndNames(FilesCase):
    def setUp(self):
        self.files = formatted(Disk(256))

    def test_the_first_state(self):
        self.assertEqual(self.files.stat(0), ("dir", 1, 0))
        self.assertEqual(self.files.names(0), [])
        self.assertEqual(self.files.snaps(), [])
        self.assertEqual(self.files.find("/"), 0)
        for number in NO_NUMBERS:
            self.refused(NoThing, self.files.stat, number)
            self.refused(NoThing, self.files.names, number)

    def test_kinds_links_and_sizes(self):
        number = self.files.make("/f", "file")
        directory = self.files.make("/d", "dir")
        self.assertEqual(self.files.stat(number), ("file", 1, 0))
        self.assertEqual(self.files.stat(directory), ("dir", 1, 0))
        self.assertEqual(self.files.stat(0), ("dir", 1, 20))
        self.files.link("/f", "/d/g")
        self.files.link("/f", "/d/h")
        self.files.write(number, 3, [1, 2])
        self.assertEqual(self.files.stat(number), ("file", 3, 5))
        self.assertEqual(self.files.stat(directory), ("dir", 1, 20))
        self.files.unlink("/f")
        self.assertEqual(self.files.stat(number), ("file", 2, 5))
        self.assertEqual(self.files.stat(0), ("dir", 1, 10))
        self.assertIs(type(self.files.stat(number)), tuple)

    def test_names_stand_as_texts_are_sorted(self):
        names = ["b", "a", "B", "A", "_", "-", "...", "0", "9", "aa", "a-", "a.", "abcdefgh", "Z", "z", "10"]
        numbers = {name: self.files.make("/" + name, "file") for name in names}
        expected = [(name, numbers[name]) for name in sorted(names)]
        self.assertEqual(self.files.names(0), expected)
        self.assertEqual([type(entry) for entry in self.files.names(0)], [tuple] * len(names))
        self.refused(WrongKind, self.files.names, numbers["a"])


class Sees(FilesCase):
    def setUp(self):
        self.files = formatted(Disk(256))

    def test_bad_name_and_no_thing(self):
        for name in ("", ".", "..", "abcdefghi", "/s", "s t", "s/t", "x" * 100, "~"):
            self.refused(BadName, self.files.see, name)
        for name in ("s", "S", "abcdefgh", "..."):
            self.refused(NoThing, self.files.see, name)
        self.files.snap("s")
        self.refused(NoThing, self.files.see, "S")
        self.assertIsInstance(self.files.see("s"), Files)
        self.files.unsnap("s")
        self.refused(NoThing, self.files.see, "s")

    def test_snaps_are_sorted(self):
        for name in ("b", "B", "a"):
            self.files.snap(name)
        self.assertEqual(self.files.snaps(), ["B", "a", "b"])
        self.assertIs(type(self.files.snaps()), list)
