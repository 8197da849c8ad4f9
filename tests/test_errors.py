"""Tests of [20] and of what [4] says about error classes."""

import unittest

from deskkeepers import errors
from samples import odd_values

FIELDS = {'Wrong': 'place', 'BadDesk': 'at', 'NoDesk': 'name', 'NoWorker': 'name', 'NotLive': 'name',
          'NotLean': None, 'NoOwn': 'name', 'NotRow': 'name', 'NoCover': 'name', 'NotPossible': 'at',
          'NoNumber': 'number', 'Unlike': None, 'TooMany': 'limit', 'Known': 'name', 'Closed': 'name',
          'Stopped': 'at', 'Nothing': None, 'NoText': None, 'NoCommand': None}


def classes():
    """The error classes with their fields, or None."""
    return [(getattr(errors, name), field) for name, field in FIELDS.items()]


class TestErrors(unittest.TestCase):
    def test_the_classes_are_those_of_the_document(self):
        found = [name for name, value in vars(errors).items()
                 if isinstance(value, type) and issubclass(value, errors.DeskError)]
        self.assertEqual(sorted(found), sorted([*FIELDS, 'DeskError']))

    def test_bases(self):
        self.assertEqual(errors.DeskError.__bases__, (ValueError,))
        for error, _ in classes():
            self.assertEqual(error.__bases__, (errors.DeskError,), error)
            self.assertEqual(error.__module__, 'deskkeepers.errors')

    def test_fields_are_the_very_objects(self):
        for error, field in classes():
            if field is None:
                continue
            for value in odd_values():
                raised = error(value)
                self.assertIs(getattr(raised, field), value)
                self.assertEqual(list(vars(raised)), [field])
                self.assertIs(getattr(error(**{field: value}), field), value)

    def test_a_changed_object_stays_the_same_object(self):
        for error, field in classes():
            if field is not None:
                value = ['a']
                raised = error(value)
                value.append('b')
                self.assertIs(getattr(raised, field), value)
                self.assertEqual(getattr(raised, field), ['a', 'b'])

    def test_errors_without_fields(self):
        for error, field in classes():
            if field is None:
                self.assertEqual(vars(error()), {})

    def test_one_argument_for_each_field(self):
        for error, field in classes():
            if field is not None:
                self.assertRaises(TypeError, error)
                self.assertRaises(TypeError, error, 1, 2)

    def test_desk_error_of_any_value(self):
        for value in odd_values():
            self.assertEqual(vars(errors.DeskError(value)), {})
        self.assertEqual(vars(errors.DeskError()), {})

    def test_raised_and_caught(self):
        for error, field in classes():
            arguments = [] if field is None else [('x', [1])]
            for caught in (error, errors.DeskError, ValueError):
                with self.assertRaises(caught) as held:
                    raise error(*arguments)
                self.assertIs(type(held.exception), error)


if __name__ == '__main__':
    unittest.main()
