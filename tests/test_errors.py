"""merestone.errors: its classes, their attributes and what they derive from."""

import ast
import os
import unittest

from merestone import errors

FIELDS = {
    "BadCode": ("op", "a", "b", "c"),
    "Trap": ("cause", "value"),
    "Malformed": ("line", "column"),
    "Unknown": ("name", "line", "column"),
    "Twice": ("name", "line", "column"),
    "OutOfRange": ("line", "column"),
    "TooLarge": ("limit",),
    "BadConfig": ("fault",),
    "BadState": ("why",),
}


class ErrorsTest(unittest.TestCase):
    def test_merestone_error_is_a_value_error(self):
        self.assertTrue(issubclass(errors.MerestoneError, ValueError))

    def test_every_class_derives_from_merestone_error_alone(self):
        for name in FIELDS:
            self.assertEqual(getattr(errors, name).__bases__, (errors.MerestoneError,), name)

    def test_arguments_by_position_become_attributes(self):
        for name, fields in FIELDS.items():
            given = [f"worth of {field}" for field in fields]
            error = getattr(errors, name)(*given)
            self.assertEqual([getattr(error, field) for field in fields], given, name)

    def test_arguments_by_name_become_attributes(self):
        for name, fields in FIELDS.items():
            error = getattr(errors, name)(**{field: (field, 7) for field in fields})
            self.assertEqual([getattr(error, field) for field in fields], [(field, 7) for field in fields], name)

    def test_attributes_keep_the_very_values(self):
        fault = ("sends", 3)
        self.assertEqual(errors.BadConfig(fault).fault, ("sends", 3))
        self.assertEqual(errors.TooLarge("words").limit, "words")
        self.assertEqual(errors.BadState("ends").why, "ends")
        self.assertEqual((errors.Trap(6, 0).cause, errors.Trap(6, 0).value), (6, 0))
        code = errors.BadCode("puts", -1, 8, 16)
        self.assertEqual((code.op, code.a, code.b, code.c), ("puts", -1, 8, 16))

    def test_wrong_numbers_of_arguments_are_refused(self):
        for name, fields in FIELDS.items():
            with self.assertRaises(TypeError):
                getattr(errors, name)(*fields, 0)
            with self.assertRaises(TypeError):
                getattr(errors, name)(*fields[1:])

    def test_each_class_is_caught_by_its_name_and_no_other(self):
        for name, fields in FIELDS.items():
            for other in FIELDS:
                caught = isinstance(getattr(errors, name)(*fields), getattr(errors, other))
                self.assertEqual(caught, name == other, (name, other))

    def test_each_class_is_caught_as_a_merestone_error_and_as_a_value_error(self):
        for name, fields in FIELDS.items():
            for wide in (errors.MerestoneError, ValueError):
                with self.assertRaises(wide):
                    raise getattr(errors, name)(*fields)

    def test_an_error_can_be_shown(self):
        for name, fields in FIELDS.items():
            self.assertIsInstance(str(getattr(errors, name)(*fields)), str)

    def test_every_class_is_defined_in_its_file(self):
        path = os.path.join(os.path.dirname(errors.__file__), "errors.py")
        with open(path, encoding="utf-8") as file:
            tree = ast.parse(file.read())
        defined = [node.name for node in tree.body if isinstance(node, ast.ClassDef)]
        self.assertEqual(sorted(defined), sorted(["MerestoneError", *FIELDS]))


if __name__ == "__main__":
    unittest.main()
