"""Point 20, errors.py: the error classes."""

import unittest

from tests.support import ERRORS
from undermasters import errors
from undermasters.cuts import nth_key

VALUES = {"name": "ann", "key": (1, 0, 2), "number": 7, "one": (0, 1), "other": (1, 1)}


class ErrorClasses(unittest.TestCase):

    def test_direct_base(self):
        for name, (base, _) in ERRORS.items():
            with self.subTest(name):
                self.assertEqual(getattr(errors, name).__bases__, (base,))

    def test_under_no_other_class_of_the_package(self):
        classes = [getattr(errors, name) for name in ERRORS]
        for one in classes:
            for other in classes:
                if one is not other:
                    self.assertFalse(issubclass(one, other), (one, other))

    def test_defined_in_errors(self):
        for name in ERRORS:
            self.assertEqual(getattr(errors, name).__module__, "undermasters.errors")
            self.assertEqual(getattr(errors, name).__name__, name)

    def test_attributes_by_position(self):
        for name, (_, fields) in ERRORS.items():
            with self.subTest(name):
                error = getattr(errors, name)(*[VALUES[field] for field in fields])
                self.assertEqual(vars(error), {field: VALUES[field] for field in fields})

    def test_attributes_by_name(self):
        for name, (_, fields) in ERRORS.items():
            with self.subTest(name):
                error = getattr(errors, name)(**{field: VALUES[field] for field in fields[::-1]})
                self.assertEqual(vars(error), {field: VALUES[field] for field in fields})

    def test_values_are_wanted(self):
        for name, (_, fields) in ERRORS.items():
            if fields:
                with self.subTest(name), self.assertRaises(TypeError):
                    getattr(errors, name)()

    def test_keys_are_kept_as_tuples(self):
        told = [1, 0]
        for error in (errors.NoKey(told), errors.Twice(told), errors.NoKey(key=told), errors.Twice(key=told)):
            self.assertEqual(repr(error.key), "(1, 0)")
        for error in (errors.NotQuiet(told, [2, 2]), errors.NotQuiet(other=[2, 2], one=told)):
            self.assertEqual(repr((error.one, error.other)), "((1, 0), (2, 2))")
        self.assertEqual(told, [1, 0])

    def test_a_kept_key_is_a_copy(self):
        told = [1, 0]
        error = errors.NoKey(told)
        told.append(5)
        self.assertEqual(error.key, (1, 0))

    def test_caught_by_the_built_in_base(self):
        for name, (base, fields) in ERRORS.items():
            with self.assertRaises(base):
                raise getattr(errors, name)(*[VALUES[field] for field in fields])

    def test_raised_by_a_function(self):
        with self.assertRaises(errors.NoNumber) as caught:
            nth_key((3, 3), 9)
        self.assertEqual(vars(caught.exception), {"number": 9})


if __name__ == "__main__":
    unittest.main()
