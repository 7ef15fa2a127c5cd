"""Point [3] and the section of errors.py."""

import unittest

from seenbars import errors

NAMES = ["GateError", "InvalidName", "InvalidStep", "InvalidFinal", "UnknownEvent", "NotPossible", "BrokenRule",
         "InvalidPosition", "InvalidBelief", "InvalidChoice", "InvalidEvent", "NotBlockable", "NotVisible",
         "UnknownGoal", "NotExact", "NoGatekeeper", "Blocked", "NothingToUndo", "Unreadable"]


class Errors(unittest.TestCase):
    def test_all_nineteen_stand_in_the_file(self):
        self.assertEqual(len(NAMES), 19)
        for name in NAMES:
            self.assertEqual(getattr(errors, name).__module__, "seenbars.errors")
            self.assertEqual(getattr(errors, name).__name__, name)

    def test_bases(self):
        self.assertEqual(errors.GateError.__bases__, (ValueError,))
        for name in NAMES[1:]:
            self.assertEqual(getattr(errors, name).__bases__, (errors.GateError,))

    def test_value_is_stored_whatever_it_is(self):
        values = ["leak", 0, -1, None, True, (2, "leak"), (), [], ["a", ["b"]], {"a": 1}, object(), ValueError("x"),
                  (["fill", "leak"], "run", [["fill"], None])]
        for name in NAMES:
            for value in values:
                self.assertIs(getattr(errors, name)(value).value, value)
                self.assertIs(getattr(errors, name)(value=value).value, value)

    def test_one_argument(self):
        for name in NAMES:
            self.assertRaises(TypeError, getattr(errors, name))
            self.assertRaises(TypeError, getattr(errors, name), 1, 2)

    def test_raised_and_caught(self):
        for name in NAMES:
            with self.assertRaises(errors.GateError) as caught:
                raise getattr(errors, name)("leak")
            self.assertIs(type(caught.exception), getattr(errors, name))
            self.assertEqual(caught.exception.value, "leak")
            with self.assertRaises(ValueError):
                raise getattr(errors, name)(value=3)

    def test_classes_do_not_catch_each_other(self):
        for name in NAMES[1:]:
            for other in NAMES[1:]:
                self.assertEqual(isinstance(getattr(errors, name)(1), getattr(errors, other)), name == other)


if __name__ == "__main__":
    unittest.main()
