"""The interface of pikeroll/errors.py."""

import unittest

from pikeroll import errors
from pikeroll.coin import read_stub
from pikeroll.facts import need_fact

UNDER_PIKE = [
    "BadFact", "BadStub", "BadNet", "BadPlace", "BadHorses", "BadDay",
    "BadCount", "Other", "Full", "Nothing", "BadPage",
]
UNDER_MISSING = ["NoPassing", "NoFact", "NoCarriage"]


class Classes(unittest.TestCase):
    def test_roots(self):
        self.assertEqual(errors.PikeError.__bases__, (ValueError,))
        self.assertEqual(errors.Missing.__bases__, (KeyError,))

    def test_straight_under_pike_error(self):
        for name in UNDER_PIKE:
            with self.subTest(name):
                self.assertEqual(getattr(errors, name).__bases__, (errors.PikeError,))

    def test_straight_under_missing(self):
        for name in UNDER_MISSING:
            with self.subTest(name):
                self.assertEqual(getattr(errors, name).__bases__, (errors.Missing,))

    def test_missing_is_no_pike_error(self):
        self.assertFalse(issubclass(errors.Missing, ValueError))
        self.assertFalse(issubclass(errors.PikeError, KeyError))


class Fields(unittest.TestCase):
    def test_place_and_row(self):
        self.assertEqual(errors.BadFact(4).place, 4)
        self.assertEqual(errors.BadPage(0).row, 0)

    def test_number(self):
        for name in UNDER_MISSING:
            with self.subTest(name):
                self.assertEqual(getattr(errors, name)(17).number, 17)

    def test_each_error_keeps_its_own(self):
        first, second = errors.BadFact(1), errors.BadFact(2)
        self.assertEqual((first.place, second.place), (1, 2))

    def test_each_is_called_by_its_class(self):
        for name in UNDER_PIKE + UNDER_MISSING:
            with self.subTest(name):
                self.assertEqual(getattr(errors, name)(3).called, name)

    def test_caught_by_the_root(self):
        with self.assertRaises(errors.PikeError):
            need_fact(("none",))
        with self.assertRaises(errors.PikeError):
            read_stub("")


if __name__ == "__main__":
    unittest.main()
