"""Point [4]: the errors, their base classes and their fields."""
import unittest

from armwarrant import errors

FIELDS = {
    "InvalidArm": ("field",),
    "InvalidShape": ("field",),
    "InvalidMove": ("field",),
    "OutOfRange": ("field",),
    "InvalidProgram": ("line", "column", "expected"),
    "MissingRoutine": ("name",),
    "RecursiveRoutine": ("name",),
    "FlowTooLong": (),
    "InvalidEdit": ("at",),
    "UnknownArm": (),
    "InvalidPaper": (),
    "NotReady": (),
    "NotSafe": (),
    "NotNow": (),
}
VALUES = {"field": "axis", "line": 3, "column": 14, "expected": "a count", "name": "pick", "at": 7}


class TestErrors(unittest.TestCase):
    def test_the_base_class_is_a_direct_subclass_of_value_error(self):
        self.assertEqual(errors.ArmwarrantError.__bases__, (ValueError,))

    def test_there_are_fourteen_errors_and_no_others(self):
        found = [name for name, value in vars(errors).items() if isinstance(value, type)]
        self.assertEqual(sorted(found), sorted(list(FIELDS) + ["ArmwarrantError"]))
        self.assertEqual(len(FIELDS), 14)

    def test_each_error_is_a_direct_subclass_of_the_base_class(self):
        for name in FIELDS:
            with self.subTest(name):
                self.assertEqual(getattr(errors, name).__bases__, (errors.ArmwarrantError,))

    def test_each_error_has_the_fields_of_its_arguments(self):
        for name, fields in FIELDS.items():
            with self.subTest(name):
                error = getattr(errors, name)(*[VALUES[field] for field in fields])
                self.assertEqual(vars(error), {field: VALUES[field] for field in fields})

    def test_each_error_takes_its_arguments_by_keyword(self):
        for name, fields in FIELDS.items():
            with self.subTest(name):
                error = getattr(errors, name)(**{field: VALUES[field] for field in fields})
                self.assertEqual(vars(error), {field: VALUES[field] for field in fields})

    def test_each_error_can_be_raised_and_caught_as_a_value_error(self):
        for name, fields in FIELDS.items():
            with self.subTest(name):
                with self.assertRaises(ValueError):
                    raise getattr(errors, name)(*[VALUES[field] for field in fields])


if __name__ == "__main__":
    unittest.main()
