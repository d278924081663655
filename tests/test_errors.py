"""The error classes of the interface."""

import unittest

from wrapnets import errors

FIELDS = {
    "BadGround": ("at",), "BadWeave": ("at",), "NoHead": (), "BadRoom": ("word",), "NoRoom": ("room",),
    "NoNumber": ("number",), "Taken": ("number",), "NoHand": ("hand",), "NoPlace": ("place",), "InUse": (),
    "Full": (), "BadText": (), "BadGate": ("word",), "NoGate": ("gate",), "NoRoad": ("a", "b"), "Same": (),
    "Long": (), "Busy": (), "BadDeeds": (), "Broken": ("at",), "NoLetter": (), "Torn": ("at",),
}


class ErrorsTest(unittest.TestCase):
    def test_net_error_is_a_value_error(self):
        self.assertEqual(errors.NetError.__bases__, (ValueError,))

    def test_each_is_under_net_error_and_under_no_other_one(self):
        for name in FIELDS:
            with self.subTest(name):
                found = getattr(errors, name)
                self.assertTrue(issubclass(found, errors.NetError))
                self.assertTrue(issubclass(found, ValueError))
                for other in FIELDS:
                    if other != name:
                        self.assertFalse(issubclass(found, getattr(errors, other)), other)

    def test_each_has_its_fields_as_handed_in(self):
        handed = ([1, ["x"]], {"k": None})
        for name, fields in FIELDS.items():
            with self.subTest(name):
                things = handed[:len(fields)]
                error = getattr(errors, name)(*things)
                for field, thing in zip(fields, things):
                    self.assertIs(getattr(error, field), thing)
                self.assertEqual(set(vars(error)), set(fields))

    def test_fields_may_be_handed_by_their_names(self):
        for name, fields in FIELDS.items():
            error = getattr(errors, name)(**{field: (name, field) for field in fields})
            for field in fields:
                self.assertEqual(getattr(error, field), (name, field))

    def test_each_can_be_raised_and_caught_as_net_error(self):
        for name, fields in FIELDS.items():
            with self.assertRaises(errors.NetError):
                raise getattr(errors, name)(*fields)
