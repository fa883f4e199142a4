import unittest

from pacebond import errors
from tests.samples import ANYTHING, Case

TEXTS = [
    "NoProgram", "NoInput", "NoCode", "NoMachine", "NoStore", "NoSpot", "NoChoice", "NoMost", "Unlike", "TooWide",
    "TooLong", "NoSheet", "NoPass", "NoPasses", "NoSeam", "NoShare", "NoWorks", "NoDeed", "NoName", "TooMany",
    "NoText", "NoLine",
]
KEPT = {"NoWalk": "at", "NoRow": "number", "NoNumber": "number", "NoWork": "name"}


class Errors(Case):
    def test_families(self):
        self.assertEqual(errors.PaceError.__bases__, (ValueError,))
        self.assertEqual(errors.WalkError.__bases__, (LookupError,))

    def test_each_stands_right_under_its_own_base(self):
        for word in TEXTS:
            self.assertEqual(getattr(errors, word).__bases__, (errors.PaceError,), word)
        for word in KEPT:
            self.assertEqual(getattr(errors, word).__bases__, (errors.WalkError,), word)

    def test_there_are_no_others(self):
        found = [word for word, one in vars(errors).items() if isinstance(one, type)]
        self.assertEqual(sorted(found), sorted(TEXTS + list(KEPT) + ["PaceError", "WalkError"]))

    def test_each_is_defined_there(self):
        for word in TEXTS + list(KEPT):
            self.assertEqual(getattr(errors, word).__module__, "pacebond.errors")

    def test_made_of_a_text(self):
        for word in TEXTS:
            error = getattr(errors, word)("what is wrong")
            self.assertEqual(str(error), "what is wrong")

    def test_keeps_what_was_handed_in(self):
        for word, kept in KEPT.items():
            for thing in ANYTHING:
                self.assertIs(getattr(getattr(errors, word)(thing), kept), thing)
                self.assertIs(getattr(getattr(errors, word)(**{kept: thing}), kept), thing)

    def test_caught_by_family(self):
        with self.assertRaises(errors.PaceError):
            raise errors.NoCode("none")
        with self.assertRaises(errors.WalkError):
            raise errors.NoRow(7)


if __name__ == "__main__":
    unittest.main()
