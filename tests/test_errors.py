"""The error classes: the interface of tellontree/errors.py, and point 4."""

import unittest

from tellontree import errors
from tests.helper import ATTRIBUTES


class ErrorClasses(unittest.TestCase):

    def test_base_class(self):
        self.assertEqual(errors.TellError.__bases__, (Exception,))

    def test_each_stands_directly_below_tell_error(self):
        self.assertEqual(len(ATTRIBUTES), 12)
        for name in ATTRIBUTES:
            with self.subTest(name):
                self.assertEqual(getattr(errors, name).__bases__, (errors.TellError,))
                self.assertEqual(getattr(errors, name).__module__, "tellontree.errors")

    def test_attributes_in_their_order(self):
        for name, attributes in ATTRIBUTES.items():
            given = [f"value {at}" for at in range(len(attributes))]
            error = getattr(errors, name)(*given)
            with self.subTest(name):
                self.assertEqual([getattr(error, attribute) for attribute in attributes], given)

    def test_attributes_keep_values_of_any_kind(self):
        self.assertEqual(errors.InvalidPlan("nobody", (0, 2)).at, (0, 2))
        self.assertEqual(errors.InvalidRoots(-1).at, -1)
        self.assertEqual(errors.InvalidText(0).line, 0)
        self.assertEqual(errors.InvalidPlan("gap", 3).why, "gap")

    def test_arguments_by_name(self):
        for name, attributes in ATTRIBUTES.items():
            given = {attribute: at for at, attribute in enumerate(attributes)}
            error = getattr(errors, name)(**given)
            with self.subTest(name):
                self.assertEqual({key: getattr(error, key) for key in given}, given)

    def test_caught_by_its_own_name_and_as_tell_error(self):
        for name, attributes in ATTRIBUTES.items():
            kind = getattr(errors, name)
            with self.subTest(name):
                with self.assertRaises(kind):
                    raise kind(*attributes)
                with self.assertRaises(errors.TellError):
                    raise kind(*attributes)


if __name__ == "__main__":
    unittest.main()
