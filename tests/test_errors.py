import unittest

from stillpoint import errors
from stillpoint.errors import StillError

NAMES = (
    "NoThing", "NoDirectory", "BadName", "IsThere", "NoRoom",
    "NotEmpty", "WrongKind", "TooGreat", "ReadOnly", "NoFiles",
)
REFUSALS = tuple(getattr(errors, name) for name in NAMES)
TEXTS = ("", "a", "no such thing", "'quoted' and \"quoted\"", "{name}", "x" * 100)


class Promise2(unittest.TestCase):
    def test_each_stands_under_still_error_and_value_error(self):
        self.assertTrue(issubclass(StillError, ValueError))
        for refusal in REFUSALS:
            with self.subTest(refusal=refusal.__name__):
                self.assertTrue(issubclass(refusal, StillError))
                self.assertTrue(issubclass(refusal, ValueError))
                self.assertIsNot(refusal, StillError)

    def test_none_stands_under_another(self):
        for one in REFUSALS:
            for other in REFUSALS:
                if one.__name__ != other.__name__:
                    with self.subTest(one=one.__name__, other=other.__name__):
                        self.assertFalse(issubclass(one, other))

    def test_each_has_its_own_name(self):
        self.assertEqual([refusal.__name__ for refusal in REFUSALS], list(NAMES))

    def test_there_are_no_others(self):
        found = [name for name, value in vars(errors).items() if isinstance(value, type)]
        self.assertEqual(sorted(found), sorted(NAMES + ("StillError",)))

    def test_str_is_the_text_it_was_made_of(self):
        for refusal in REFUSALS + (StillError,):
            for text in TEXTS:
                with self.subTest(refusal=refusal.__name__, text=text):
                    self.assertEqual(str(refusal(text)), text)

    def test_each_is_taken_by_its_own_name_and_by_those_above(self):
        for refusal in REFUSALS:
            for above in (refusal, StillError, ValueError):
                with self.subTest(refusal=refusal.__name__, above=above.__name__):
                    with self.assertRaises(above) as taken:
                        raise refusal("told")
                    self.assertIs(type(taken.exception), refusal)


if __name__ == "__main__":
    unittest.main()
