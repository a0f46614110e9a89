"""The errors: what they are made of, what they keep, what they stand under."""

import unittest

from checks import MADE_OF, Checks
from tiedsteps import errors

BASES = {"TooMany": OverflowError, "NoName": KeyError, "NeverEnds": RuntimeError}
ANY_VALUES = [None, True, 0, -7, "", "text", b"bytes", [], [1, [2]], {"a": 1}, (1, 2), object()]


class ErrorsTest(Checks):
    def test_tied_error_is_directly_a_value_error(self):
        self.assertEqual(errors.TiedError.__bases__, (ValueError,))

    def test_each_stands_directly_under_its_base(self):
        for name in MADE_OF:
            with self.subTest(name):
                base = BASES.get(name, errors.TiedError)
                self.assertEqual(getattr(errors, name).__bases__, (base,))

    def test_there_are_just_these_classes(self):
        told = [name for name, value in vars(errors).items() if isinstance(value, type)]
        self.assertEqual(sorted(told), sorted([*MADE_OF, "TiedError"]))
        self.assertEqual({getattr(errors, name).__module__ for name in told}, {"tiedsteps.errors"})

    def test_each_keeps_any_value_given_by_position(self):
        for name, attribute in MADE_OF.items():
            for value in ANY_VALUES:
                with self.subTest(name=name, value=value):
                    error = getattr(errors, name)(value)
                    self.assertIs(getattr(error, attribute), value)
                    self.assertIn(attribute, vars(error))

    def test_each_keeps_any_value_given_by_name(self):
        for name, attribute in MADE_OF.items():
            for value in ANY_VALUES:
                with self.subTest(name=name, value=value):
                    error = getattr(errors, name)(**{attribute: value})
                    self.assertIs(getattr(error, attribute), value)

    def test_each_is_made_of_just_one_argument(self):
        for name in MADE_OF:
            with self.subTest(name):
                self.assertRaises(TypeError, getattr(errors, name))
                self.assertRaises(TypeError, getattr(errors, name), 1, 2)
                self.assertRaises(TypeError, getattr(errors, name), other=1)

    def test_each_is_raised_and_caught_by_its_base(self):
        for name, attribute in MADE_OF.items():
            with self.subTest(name):
                with self.assertRaises(BASES.get(name, errors.TiedError)) as caught:
                    raise getattr(errors, name)([name])
                self.assertEqual(getattr(caught.exception, attribute), [name])


if __name__ == "__main__":
    unittest.main()
