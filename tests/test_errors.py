"""Point 5: the error classes."""

import unittest

from leafwaits import errors
from support import any_objects

WITH_VALUE = """InvalidTerm InvalidRule NotFlat InvalidPath InvalidRows InvalidHours InvalidWhole InvalidCount
InvalidName InvalidNames UnknownName TakenName InvalidRules InvalidBook Unlike InvalidLates InvalidCorners InvalidStair
InvalidWindows InvalidSights Clash InvalidHall InvalidScript InvalidLog InvalidText StillNeeded""".split()
WITHOUT = ["NothingToUndo", "NothingToRedo"]


class ErrorsTest(unittest.TestCase):
    def test_all_are_derived_from_leaf_error_and_none_from_another(self):
        self.assertTrue(issubclass(errors.LeafError, ValueError))
        classes = [getattr(errors, name) for name in WITH_VALUE + WITHOUT]
        for one in classes:
            self.assertTrue(issubclass(one, errors.LeafError))
            for other in classes:
                self.assertEqual(issubclass(one, other), one is other)

    def test_field_holds_the_very_argument(self):
        for name in WITH_VALUE:
            kind = getattr(errors, name)
            for value in any_objects():
                self.assertIs(kind(value).value, value)
                self.assertIs(kind(value=value).value, value)
            self.assertIsNone(kind().value)

    def test_others_take_no_arguments(self):
        for name in WITHOUT + ["LeafError"]:
            error = getattr(errors, name)()
            self.assertIsInstance(error, errors.LeafError)
            self.assertFalse(hasattr(error, "value"))

    def test_can_be_raised_and_caught(self):
        for name in WITH_VALUE + WITHOUT:
            with self.assertRaises(errors.LeafError):
                raise getattr(errors, name)()
            with self.assertRaises(ValueError):
                raise getattr(errors, name)()


if __name__ == "__main__":
    unittest.main()
