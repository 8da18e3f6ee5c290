"""The errors under "The interface", parcener/errors.py."""

import unittest

from parcener import errors
from parcener.errors import BadEstate, BadFact, BadPaper, BadRules, BadWill, Circular, Refused

FIELDS = [
    (BadFact, "at", 3),
    (Circular, "name", "al"),
    (BadRules, "why", "days"),
    (BadWill, "at", 60),
    (BadEstate, "why", "coins"),
    (BadPaper, "why", "no tuple"),
]


class Errors(unittest.TestCase):
    def test_refused_is_a_value_error(self):
        self.assertEqual(Refused.__bases__, (ValueError,))

    def test_the_others_are_direct_subclasses_of_refused(self):
        for error, _, _ in FIELDS:
            with self.subTest(error=error.__name__):
                self.assertEqual(error.__bases__, (Refused,))

    def test_no_other_error_is_caught_by_one_of_them(self):
        for error, _, worth in FIELDS:
            for other, _, _ in FIELDS:
                if other is not error:
                    self.assertNotIsInstance(error(worth), other)

    def test_the_argument_is_the_field(self):
        for error, field, worth in FIELDS:
            with self.subTest(error=error.__name__):
                self.assertEqual(vars(error(worth)), {field: worth})
                self.assertEqual(vars(error(**{field: worth})), {field: worth})

    def test_the_field_is_there_when_it_is_caught(self):
        for error, field, worth in FIELDS:
            with self.subTest(error=error.__name__):
                with self.assertRaises(Refused) as caught:
                    raise error(worth)
                self.assertIs(type(caught.exception), error)
                self.assertEqual(getattr(caught.exception, field), worth)

    def test_a_field_may_be_zero(self):
        self.assertEqual(BadFact(0).at, 0)
        self.assertEqual(BadWill(0).at, 0)

    def test_each_takes_exactly_one_argument(self):
        for error, _, worth in FIELDS:
            with self.subTest(error=error.__name__):
                self.assertRaises(TypeError, error)
                self.assertRaises(TypeError, error, worth, worth)

    def test_they_are_defined_in_this_file(self):
        for name in ["Refused"] + [error.__name__ for error, _, _ in FIELDS]:
            self.assertEqual(getattr(errors, name).__module__, "parcener.errors")


if __name__ == "__main__":
    unittest.main()
