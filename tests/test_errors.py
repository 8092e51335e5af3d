"""nextsuch/errors.py: the error classes, what they come of and what they keep."""

import unittest

from nextsuch import errors


class Errors(unittest.TestCase):
    def test_each_is_directly_under_its_builtin_class(self):
        self.assertEqual(errors.NoPlace.__bases__, (LookupError,))
        for own in (errors.BadText, errors.CanNot, errors.TooMuch, errors.Unfit):
            self.assertEqual(own.__bases__, (ValueError,), own)

    def test_each_is_defined_there(self):
        for name in ("NoPlace", "BadText", "CanNot", "TooMuch", "Unfit"):
            own = getattr(errors, name)
            self.assertEqual((own.__module__, own.__name__), ("nextsuch.errors", name))

    def test_what_they_keep(self):
        for number in (-3, 0, 1, 7, 10 ** 6000):
            self.assertIs(errors.NoPlace(number).place, number)
            self.assertIs(errors.NoPlace(place=number).place, number)
            self.assertIs(errors.BadText(number).line, number)
            self.assertIs(errors.BadText(line=number).line, number)
        self.assertEqual(vars(errors.NoPlace(4)), {"place": 4})
        self.assertEqual(vars(errors.BadText(4)), {"line": 4})

    def test_those_that_keep_nothing(self):
        for own in (errors.CanNot, errors.TooMuch, errors.Unfit):
            self.assertEqual(vars(own()), {})
            self.assertRaises(TypeError, own, 1)

    def test_none_is_another_one(self):
        made = (errors.NoPlace(1), errors.BadText(1), errors.CanNot(), errors.TooMuch(), errors.Unfit())
        for at, own in enumerate(made):
            for there, other in enumerate(made):
                self.assertEqual(isinstance(own, type(other)), at == there)

    def test_values_must_be_given(self):
        for own in (errors.NoPlace, errors.BadText):
            self.assertRaises(TypeError, own)
            self.assertRaises(TypeError, own, 1, 2)


if __name__ == "__main__":
    unittest.main()
