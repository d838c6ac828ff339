"""The error classes of mathgalley/errors.py (point 3)."""

import unittest

from mathgalley import errors

PLAIN = ("TooLong", "TooDeep", "TooLarge", "BadFont", "BadStyle", "BadSettings", "BadBreaks",
         "NoSuchCaret", "CaretsApart", "CaretsReversed", "HistoryFull")


class ErrorClasses(unittest.TestCase):

    def test_base_is_under_value_error(self):
        self.assertTrue(issubclass(errors.SetError, ValueError))

    def test_each_class_is_under_the_base_and_under_no_other(self):
        classes = [getattr(errors, name) for name in PLAIN + ("SyntaxFault", "UnknownSymbol")]
        for one in classes:
            self.assertTrue(issubclass(one, errors.SetError), one)
            self.assertEqual(one.__module__, "mathgalley.errors")
            for other in classes:
                self.assertEqual(issubclass(one, other), one is other)

    def test_fields(self):
        self.assertEqual(errors.SyntaxFault(3).place, 3)
        self.assertEqual(errors.SyntaxFault(0).place, 0)
        self.assertEqual(errors.UnknownSymbol("@alpha").name, "@alpha")

    def test_each_class_is_caught_as_set_error(self):
        for name in PLAIN:
            with self.assertRaises(errors.SetError):
                raise getattr(errors, name)("why")
        with self.assertRaises(errors.SetError):
            raise errors.SyntaxFault(place=1)
        with self.assertRaises(ValueError):
            raise errors.UnknownSymbol(name="x")


if __name__ == "__main__":
    unittest.main()
