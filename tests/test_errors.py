"""The interface's section on errors: each class's base and field."""

import unittest

from pulsewright import errors

PULSE = {
    "BadRow": "at", "BadRule": "part", "BadPace": "part", "BadCount": None, "BadNumber": None,
    "BadWeights": None, "TooWide": "stands", "Unlawful": "at", "Unread": None,
    "BadLength": "by", "BadPair": None, "NoTable": None, "Endless": None, "BadText": "row",
    "BadName": None,
}
LOFT = {
    "Absent": "name", "Taken": "name", "Full": None, "Held": None, "TooLong": None,
    "NoSign": None, "NothingLeft": None,
}


class ErrorsTest(unittest.TestCase):
    def test_the_two_roots(self):
        self.assertEqual(errors.PulseError.__bases__, (ValueError,))
        self.assertEqual(errors.LoftError.__bases__, (LookupError,))

    def test_each_class_is_straight_under_its_root(self):
        for root, names in ((errors.PulseError, PULSE), (errors.LoftError, LOFT)):
            for name in names:
                with self.subTest(name):
                    self.assertEqual(getattr(errors, name).__bases__, (root,))

    def test_there_are_no_other_classes(self):
        listed = {"PulseError", "LoftError", *PULSE, *LOFT}
        found = {name for name, thing in vars(errors).items() if isinstance(thing, type)}
        self.assertEqual(found, listed)

    def test_fields_are_set_by_place_and_by_name(self):
        for name, field in {**PULSE, **LOFT}.items():
            if field is None:
                continue
            with self.subTest(name):
                made = getattr(errors, name)
                for worth in (0, 7, "low"):
                    self.assertEqual(getattr(made(worth), field), worth)
                    self.assertEqual(getattr(made(**{field: worth}), field), worth)

    def test_those_with_a_field_are_not_made_without_it(self):
        for name, field in {**PULSE, **LOFT}.items():
            if field is not None:
                with self.subTest(name), self.assertRaises(TypeError):
                    getattr(errors, name)()

    def test_those_without_a_field_are_made_without_anything(self):
        for name, field in {**PULSE, **LOFT}.items():
            if field is None:
                with self.subTest(name):
                    made = getattr(errors, name)()
                    self.assertEqual(vars(made), {})

    def test_they_are_caught_by_their_bases(self):
        for caught in (errors.BadRow, errors.PulseError, ValueError):
            with self.assertRaises(caught):
                raise errors.BadRow(3)
        for caught in (errors.Absent, errors.LoftError, LookupError):
            with self.assertRaises(caught):
                raise errors.Absent("ab")


if __name__ == "__main__":
    unittest.main()
