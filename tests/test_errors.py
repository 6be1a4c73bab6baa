"""[25]: the error classes."""

import unittest

from screwshop import errors
from tests.support import ERRORS


class Errors(unittest.TestCase):
    def test_each_is_a_direct_subclass_of_the_class_named(self):
        for name, (base, _) in ERRORS.items():
            with self.subTest(name=name):
                self.assertEqual(getattr(errors, name).__bases__, (base,))

    def test_there_are_no_others(self):
        classes = [name for name in vars(errors) if isinstance(vars(errors)[name], type)]
        self.assertEqual(sorted(classes), sorted(ERRORS))

    def test_values_are_stored_by_position_and_by_name(self):
        for name, (_, attributes) in ERRORS.items():
            values = ["loud" if own == "word" else -7 for own in attributes]
            by_name = dict(zip(attributes, values))
            for error in (getattr(errors, name)(*values), getattr(errors, name)(**by_name)):
                with self.subTest(name=name):
                    self.assertEqual(vars(error), by_name)

    def test_values_are_asked_for(self):
        for name, (_, attributes) in ERRORS.items():
            if attributes:
                with self.subTest(name=name), self.assertRaises(TypeError):
                    getattr(errors, name)()


if __name__ == "__main__":
    unittest.main()
