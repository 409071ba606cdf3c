"""The exceptions of the interface."""

import unittest

from blankcells import errors

PLAIN = (
    "NoTable NoMany NoRules NoRule NoFull NoPlace NoRow NoCell NoValues NoColumns NoParts NoNumber NoFilling "
    "NoText NothingDone"
).split()


class ErrorsTest(unittest.TestCase):
    def test_base(self):
        self.assertEqual(errors.BlankError.__bases__, (ValueError,))
        self.assertEqual(errors.BlankError.__module__, "blankcells.errors")

    def test_all_are_derived_directly_and_defined_here(self):
        for name in PLAIN + ["TooMany", "Conflict"]:
            kind = getattr(errors, name)
            self.assertEqual(kind.__bases__, (errors.BlankError,), name)
            self.assertEqual(kind.__module__, "blankcells.errors", name)
            self.assertEqual(kind.__name__, name)

    def test_plain_ones_are_made_without_arguments(self):
        for name in PLAIN:
            kind = getattr(errors, name)
            with self.assertRaises(kind) as caught:
                raise kind()
            self.assertIs(type(caught.exception), kind)

    def test_too_many_has_its_fields(self):
        error = errors.TooMany(7, 6)
        self.assertEqual((error.amount, error.limit), (7, 6))
        error = errors.TooMany(limit=8, amount=9)
        self.assertEqual((error.amount, error.limit), (9, 8))
        with self.assertRaises(errors.TooMany):
            raise error

    def test_conflict_has_its_field(self):
        self.assertEqual(errors.Conflict(((0, 0, 1), (1, 0, 2))).steps, ((0, 0, 1), (1, 0, 2)))
        self.assertEqual(errors.Conflict(steps=()).steps, ())
        with self.assertRaises(errors.Conflict):
            raise errors.Conflict(())

    def test_arguments_are_needed(self):
        self.assertRaises(TypeError, errors.TooMany)
        self.assertRaises(TypeError, errors.TooMany, 1)
        self.assertRaises(TypeError, errors.Conflict)


if __name__ == "__main__":
    unittest.main()
