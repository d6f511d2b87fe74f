"""The error classes of the interface."""

import unittest

from planeworth import errors

UNDER_PLANE_ERROR = ["NotNumber", "NotMatrix", "NotPoint", "NotPlanes", "NotRow", "NotFlat", "NotSum", "NotPoly",
                     "NotGraph", "NotStrokes", "NotSigns", "BadNumber", "NoAnswer", "TooLarge", "Malformed",
                     "BadJournal", "OpenTrial"]


class TestErrors(unittest.TestCase):

    def test_plane_error_is_directly_under_value_error(self):
        self.assertEqual(errors.PlaneError.__bases__, (ValueError,))

    def test_all_others_are_directly_under_plane_error(self):
        for name in UNDER_PLANE_ERROR:
            with self.subTest(name):
                self.assertEqual(getattr(errors, name).__bases__, (errors.PlaneError,))
                self.assertEqual(getattr(errors, name).__module__, "planeworth.errors")

    def test_there_are_no_other_classes(self):
        classes = [name for name, thing in vars(errors).items() if isinstance(thing, type)]
        self.assertEqual(sorted(classes), sorted(UNDER_PLANE_ERROR + ["PlaneError"]))

    def test_fields(self):
        self.assertEqual(errors.Malformed(7).at, 7)
        self.assertEqual(errors.Malformed(0).at, 0)
        self.assertEqual(errors.BadJournal(5).row, 5)

    def test_each_is_raised_and_caught_as_what_it_is(self):
        for name in UNDER_PLANE_ERROR:
            kind = getattr(errors, name)
            argument = 3 if name in ("Malformed", "BadJournal") else "why"
            with self.subTest(name), self.assertRaises(errors.PlaneError) as caught:
                raise kind(argument)
            self.assertIs(type(caught.exception), kind)


if __name__ == "__main__":
    unittest.main()
