"""The refusals, as the interface lists them."""

import unittest

from treetellers import errors

PLAIN = ("BadPlace", "TooBig", "TooMany", "BadState", "BadPairs")
NUMBERED = ("BadBook", "NotKeeping", "BadText")


class Errors(unittest.TestCase):
    def test_tell_error_stands_directly_under_value_error(self):
        self.assertEqual(errors.TellError.__bases__, (ValueError,))
        self.assertEqual(str(errors.TellError("no")), "no")

    def test_each_stands_directly_under_tell_error(self):
        for name in ("BadTree", *NUMBERED, *PLAIN):
            self.assertEqual(getattr(errors, name).__bases__, (errors.TellError,), name)

    def test_there_are_no_others(self):
        classes = [name for name, thing in vars(errors).items() if isinstance(thing, type)]
        self.assertEqual(sorted(classes), sorted(("TellError", "BadTree", *NUMBERED, *PLAIN)))

    def test_bad_tree_has_its_place(self):
        self.assertEqual(errors.BadTree((0, 2)).place, (0, 2))
        self.assertEqual(errors.BadTree(()).place, ())

    def test_numbered_ones_have_their_numbers(self):
        for name in NUMBERED:
            self.assertEqual(getattr(errors, name)(7).number, 7, name)

    def test_plain_ones_can_be_raised_and_caught(self):
        for name in PLAIN:
            with self.assertRaises(errors.TellError):
                raise getattr(errors, name)("no")


if __name__ == "__main__":
    unittest.main()
