import unittest

from stillpoint.names import is_name, is_path, path_names

LETTERS = "abcdefghijklmnopqrstuvwxyz"
ALLOWED = LETTERS + LETTERS.upper() + "0123456789" + "._-"
SIGNS = [chr(code) for code in range(32, 127)]

GOOD_NAMES = (
    "a", "Z", "0", "9", "_", "-", "abcdefgh", "ABCDEFGH", "01234567", "........", "________",
    "--------", "...", ".a", "a.", "..a", "a..", "._", ".-", "a.b-c_D9", "aZ09._-x",
)
BAD_NAMES = (
    "", ".", "..", "abcdefghi", ".........", "x" * 60, "x" * 100, "a b", " ", " a", "a ", "/",
    "a/b", "/a", "a/", "*", "a~", "a+b", "a:b", "@", "[", "`", "{", "a,b", "a\n", "\n",
    "\u00e9", "\u0661", "\u00b2",
)
GOOD_PATHS = (
    ("/", []),
    ("/a", ["a"]),
    ("/abcdefgh", ["abcdefgh"]),
    ("/a/b", ["a", "b"]),
    ("/a/a/a", ["a", "a", "a"]),
    ("/.../.x/-_", ["...", ".x", "-_"]),
    ("/Docs/2026/a.txt", ["Docs", "2026", "a.txt"]),
    ("/a" * 30, ["a"] * 30),
    ("/abcdefgh" * 6 + "/abcde", ["abcdefgh"] * 6 + ["abcde"]),
)
BAD_PATHS = (
    "", "a", "a/b", " /a", "abcdefgh/a", "//", "///", "/a/", "/a/b/", "//a", "/a//b", "/a//",
    "/.", "/..", "/a/.", "/a/..", "/./a", "/../a", "/a/../b", "/abcdefghi", "/a/abcdefghi/b",
    "/a b", "/ ", "/a/*", "/a\\b", "/a/b\n", "/\u00e9", ".", "..", " ", "/ /a",
    "/abcdefgh" * 6 + "/abcdef", "/a" * 30 + "/", "/a" * 31, "/" + "a" * 60, "/" * 61, "/a" * 50,
)


class Names(unittest.TestCase):
    def test_names(self):
        for text in GOOD_NAMES:
            with self.subTest(text=text):
                self.assertIs(is_name(text), True)

    def test_no_names(self):
        for text in BAD_NAMES:
            with self.subTest(text=text):
                self.assertIs(is_name(text), False)

    def test_every_sign_in_every_place(self):
        for sign in SIGNS:
            for text in ("ab" + sign, sign + "ab", "a" + sign + "b", "abcdefg" + sign):
                with self.subTest(text=text):
                    self.assertIs(is_name(text), sign in ALLOWED)

    def test_every_sign_alone(self):
        for sign in SIGNS:
            with self.subTest(sign=sign):
                self.assertIs(is_name(sign), sign in ALLOWED and sign != ".")

    def test_every_length(self):
        for length in range(101):
            with self.subTest(length=length):
                self.assertIs(is_name("x" * length), 1 <= length <= 8)


class Paths(unittest.TestCase):
    def test_paths_and_their_names(self):
        for text, names in GOOD_PATHS:
            with self.subTest(text=text):
                self.assertIs(is_path(text), True)
                self.assertEqual(path_names(text), names)

    def test_no_paths(self):
        for text in BAD_PATHS:
            with self.subTest(text=text):
                self.assertIs(is_path(text), False)

    def test_sixty_signs_and_one_more(self):
        sixty = "/abcdefgh" * 6 + "/abcde"
        self.assertEqual(len(sixty), 60)
        self.assertIs(is_path(sixty), True)
        self.assertEqual(len(sixty + "f"), 61)
        self.assertIs(is_path(sixty + "f"), False)

    def test_a_path_of_one_name_is_as_good_as_the_name(self):
        for text in GOOD_NAMES:
            self.assertIs(is_path("/" + text), True)
        for text in BAD_NAMES:
            if text not in ("", "a/b"):
                with self.subTest(text=text):
                    self.assertIs(is_path("/" + text), False)
                    self.assertIs(is_path("/a/" + text + "/b"), False)

    def test_the_names_that_are_told_are_the_askers_own(self):
        for path in ("/", "/a/b"):
            first = path_names(path)
            first.append("more")
            self.assertNotIn("more", path_names(path))


if __name__ == "__main__":
    unittest.main()
