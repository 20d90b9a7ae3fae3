"""The error classes of the interface: base classes, fields, and what derives from what."""

import unittest

from blindpush import errors

# Each class with the names of its fields.
PUSH_ERRORS = {
    "BadPlan": ("index",), "TooLarge": ("bound",), "BadCircle": ("value",), "BadTools": ("index",),
    "BadTurn": ("value",), "BadLength": ("value",), "NotAlike": ("index",), "BadBudget": ("value",),
    "BadCost": ("value",), "BadCosts": ("value",), "OverBudget": ("rest",), "Impossible": (),
    "TooManyEdits": (), "NothingToUndo": (), "BadEdits": (), "BadEdit": ("index",),
    "Rejected": ("index",), "Busy": (), "BadText": ("index",),
}
LOOKUP_ERRORS = {"NoTool": ("value",), "NoPlace": ("value",), "NoVersion": ("value",)}
ALL_ERRORS = {**PUSH_ERRORS, **LOOKUP_ERRORS}

VALUES = (None, True, False, 0, 1, -1, 10 ** 40, "", "a text", (), (1, True), [1, [2]], {"a": [None]})


class Errors(unittest.TestCase):
    def test_base_classes(self):
        self.assertTrue(issubclass(errors.PushError, ValueError))
        self.assertFalse(issubclass(errors.PushError, LookupError))
        for name in PUSH_ERRORS:
            made = getattr(errors, name)
            self.assertTrue(issubclass(made, errors.PushError), name)
            self.assertFalse(issubclass(made, LookupError), name)
        for name in LOOKUP_ERRORS:
            made = getattr(errors, name)
            self.assertTrue(issubclass(made, LookupError), name)
            self.assertFalse(issubclass(made, ValueError), name)

    def test_none_derives_from_another(self):
        for name in ALL_ERRORS:
            for other in ALL_ERRORS:
                if name != other:
                    self.assertFalse(issubclass(getattr(errors, name), getattr(errors, other)), (name, other))

    def test_fields_are_what_was_passed(self):
        for name, fields in ALL_ERRORS.items():
            for value in VALUES:
                error = getattr(errors, name)(*[value for field in fields])
                self.assertEqual(tuple(vars(error)), fields)
                for field in fields:
                    self.assertIs(getattr(error, field), value, name)

    def test_fields_by_keyword(self):
        for name, fields in ALL_ERRORS.items():
            error = getattr(errors, name)(**{field: field for field in fields})
            self.assertEqual(vars(error), {field: field for field in fields})

    def test_wrong_number_of_fields(self):
        for name, fields in ALL_ERRORS.items():
            if fields:
                self.assertRaises(TypeError, getattr(errors, name))
                self.assertRaises(TypeError, getattr(errors, name), 1, 2)

    def test_they_can_be_raised_and_shown(self):
        for name, fields in ALL_ERRORS.items():
            made = getattr(errors, name)
            with self.assertRaises(made) as caught:
                raise made(*[None for field in fields])
            self.assertIsInstance(str(caught.exception), str)


if __name__ == "__main__":
    unittest.main()
