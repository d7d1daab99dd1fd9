"""The errors: Stage 1 of the interface."""

import unittest

from eachworkread import errors
from tests.helper import odd_values

ATTRIBUTES = {
    "BadBook": "place",
    "NoDropping": "droppers",
    "NoComing": "reader",
    "Short": "works",
    "TooFew": "work",
    "BadDemand": "demand",
    "BadLimit": "limit",
    "NoWork": "work",
    "NoReader": "reader",
    "TooManyWorks": None,
    "NothingDone": None,
}


def made(name):
    """Return an error of the class of that name."""
    if ATTRIBUTES[name] is None:
        return getattr(errors, name)()
    return getattr(errors, name)((0, 1))


class ErrorsTest(unittest.TestCase):

    def test_direct_subclasses_are_just_those_listed(self):
        found = [one.__name__ for one in errors.ReadError.__subclasses__()]
        self.assertEqual(sorted(found), sorted(ATTRIBUTES))

    def test_base_class_is_a_value_error(self):
        self.assertEqual(errors.ReadError.__bases__, (ValueError,))

    def test_each_error_is_a_read_error_and_none_of_the_others(self):
        for name in ATTRIBUTES:
            error = made(name)
            self.assertIsInstance(error, errors.ReadError)
            self.assertIsInstance(error, ValueError)
            kinds = [other for other in ATTRIBUTES if isinstance(error, getattr(errors, other))]
            self.assertEqual(kinds, [name])

    def test_attributes_by_position_and_by_name(self):
        for name, attribute in ATTRIBUTES.items():
            if attribute is None:
                continue
            for value in odd_values() + [10 ** 5000, object()]:
                for error in (getattr(errors, name)(value), getattr(errors, name)(**{attribute: value})):
                    self.assertIs(getattr(error, attribute), value)
                    self.assertEqual(list(vars(error)), [attribute])

    def test_errors_with_attributes_take_just_one_argument(self):
        for name, attribute in ATTRIBUTES.items():
            if attribute is not None:
                with self.assertRaises(TypeError):
                    getattr(errors, name)()
                with self.assertRaises(TypeError):
                    getattr(errors, name)(1, 2)

    def test_errors_without_attributes(self):
        self.assertEqual(vars(errors.TooManyWorks()), {})
        self.assertEqual(vars(errors.NothingDone()), {})

    def test_each_can_be_raised_caught_and_written_out(self):
        for name in ATTRIBUTES:
            with self.assertRaises(errors.ReadError) as caught:
                raise made(name)
            self.assertNotEqual(str(caught.exception), "")

    def test_a_very_great_integer_can_be_written_out(self):
        self.assertNotEqual(str(errors.BadDemand(10 ** 5000)), "")
