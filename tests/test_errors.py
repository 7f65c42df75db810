"""The refusals: fields, told() and their place under the base (points 2 and 3)."""

import unittest

from hookspans import errors
from hookspans.errors import HooksError

FIELDS = {
    "BadCount": ("what", "count"),
    "NoRod": ("rod",),
    "SameRod": ("rod",),
    "BadSpan": ("bar",),
    "NotSquare": ("bars", "wanted"),
    "BadPlace": ("bar",),
    "Loose": (),
    "NotLoose": (),
    "Beyond": ("least", "greatest"),
    "NoBar": ("bar",),
    "NotHeld": ("rod",),
    "NoName": ("name",),
    "NoWeb": ("name",),
    "NoBack": (),
    "BadRow": ("row",),
}

WORTHS = [0, 7, -3, 10 ** 30, "", "rods", (1, 2), (), (-1, (2, "a")), None]


def refusals():
    return [(name, getattr(errors, name), fields)
            for name, fields in FIELDS.items()]


def worths_for(fields):
    """Rows of worths, unlike for each field, each worth once in each field."""
    return [tuple(WORTHS[(start + step) % len(WORTHS)]
                  for step in range(len(fields)))
            for start in range(len(WORTHS))]


class TestRefusals(unittest.TestCase):

    def assert_keeps(self, error, fields, worths):
        for field, worth in zip(fields, worths):
            self.assertEqual(getattr(error, field), worth)
            self.assertIs(type(getattr(error, field)), type(worth))

    def test_fields_by_place(self):
        for name, kind, fields in refusals():
            for worths in worths_for(fields):
                with self.subTest(name=name, worths=worths):
                    self.assert_keeps(kind(*worths), fields, worths)

    def test_fields_by_name(self):
        for name, kind, fields in refusals():
            for worths in worths_for(fields):
                with self.subTest(name=name, worths=worths):
                    named = dict(reversed(list(zip(fields, worths))))
                    self.assert_keeps(kind(**named), fields, worths)

    def test_told(self):
        for name, kind, fields in refusals():
            for worths in worths_for(fields):
                with self.subTest(name=name, worths=worths):
                    error = kind(*worths)
                    self.assertEqual(error.told(), "refused " + name.lower())
                    self.assertEqual(error.told(), error.told())

    def test_told_is_defined_by_each_class_itself(self):
        for name, kind, _ in refusals():
            with self.subTest(name=name):
                self.assertIn("told", vars(kind))

    def test_straight_under_the_base(self):
        for name, kind, _ in refusals():
            with self.subTest(name=name):
                self.assertEqual(kind.__bases__, (HooksError,))

    def test_under_no_other_refusal(self):
        for name, kind, fields in refusals():
            error = kind(*[None for _ in fields])
            self.assertIsInstance(error, ValueError)
            for other_name, other, _ in refusals():
                with self.subTest(name=name, other=other_name):
                    self.assertEqual(isinstance(error, other),
                                     other_name == name)

    def test_base_is_a_value_error(self):
        self.assertEqual(HooksError.__bases__, (ValueError,))

    def test_raised_and_caught(self):
        for name, kind, fields in refusals():
            for caught in (kind, HooksError, ValueError):
                with self.subTest(name=name, caught=caught):
                    with self.assertRaises(caught):
                        raise kind(*[1 for _ in fields])

    def test_defined_in_its_file(self):
        for name, kind, _ in refusals() + [("HooksError", HooksError, ())]:
            with self.subTest(name=name):
                self.assertEqual(kind.__module__, "hookspans.errors")
                self.assertEqual(kind.__name__, name)


if __name__ == "__main__":
    unittest.main()
