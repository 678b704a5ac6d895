"""Tests of somerows.errors: points [17], [19] and the interface."""

import copy
import inspect
import unittest

from somerows import errors
from somerows.errors import InvalidCommit, InvalidText, LaneFull, NeverAnew, NothingThere
from somerows.errors import SomerowsError

ARGUMENTS = [
    None, True, 0, -1, 10 ** 59, '', 'parents 1, values 2', (), [], {},
    (('parent', 0, 1),), [['parent', 0, 1]], {'lane': [0, (1,)]},
]
WITH_ONE_ARGUMENT = [
    (InvalidCommit, 'changes'),
    (LaneFull, 'lane'),
    (NothingThere, 'lane'),
    (InvalidText, 'text'),
]
FIVE = [InvalidCommit, LaneFull, NothingThere, NeverAnew, InvalidText]


class ErrorClasses(unittest.TestCase):
    def test_the_base_is_a_direct_subclass_of_valueerror(self):
        self.assertEqual(SomerowsError.__bases__, (ValueError,))

    def test_each_is_a_direct_subclass_of_the_base_alone(self):
        for error in FIVE:
            self.assertEqual(error.__bases__, (SomerowsError,), error)

    def test_none_is_a_subclass_of_another(self):
        for error in FIVE:
            others = [other for other in FIVE if other is not error]
            for other in others:
                self.assertFalse(issubclass(error, other), (error, other))

    def test_each_is_defined_in_its_file_under_its_name(self):
        for name in ('SomerowsError', 'InvalidCommit', 'LaneFull', 'NothingThere', 'NeverAnew',
                     'InvalidText'):
            error = getattr(errors, name)
            self.assertEqual((error.__name__, error.__module__), (name, 'somerows.errors'))

    def test_the_parameters_have_the_names_of_the_interface(self):
        for error, name in WITH_ONE_ARGUMENT:
            self.assertEqual(list(inspect.signature(error).parameters), [name])
        self.assertEqual(list(inspect.signature(NeverAnew).parameters), [])


class ErrorObjects(unittest.TestCase):
    def test_the_attribute_holds_the_argument(self):
        for error, name in WITH_ONE_ARGUMENT:
            for argument in ARGUMENTS:
                held = getattr(error(argument), name)
                self.assertEqual(held, argument)
                self.assertIs(type(held), type(argument))

    def test_making_an_error_does_not_change_the_argument(self):
        for error, _ in WITH_ONE_ARGUMENT:
            for argument in ARGUMENTS:
                before = copy.deepcopy(argument)
                error(argument)
                self.assertEqual(argument, before)

    def test_two_objects_hold_their_own_arguments(self):
        first, second = LaneFull(0), LaneFull(1)
        self.assertEqual((first.lane, second.lane), (0, 1))

    def test_each_is_caught_as_itself_as_the_base_and_as_valueerror(self):
        for error, _ in WITH_ONE_ARGUMENT:
            for caught in (error, SomerowsError, ValueError):
                with self.assertRaises(caught):
                    raise error(0)
        for caught in (NeverAnew, SomerowsError, ValueError):
            with self.assertRaises(caught):
                raise NeverAnew()

    def test_a_raised_error_still_holds_its_argument(self):
        with self.assertRaises(InvalidCommit) as caught:
            raise InvalidCommit((('parent', 0, 1),))
        self.assertEqual(caught.exception.changes, (('parent', 0, 1),))

    def test_wrong_numbers_of_arguments(self):
        for error, _ in WITH_ONE_ARGUMENT:
            self.assertRaises(TypeError, error)
            self.assertRaises(TypeError, error, 0, 0)
        self.assertRaises(TypeError, NeverAnew, 0)


if __name__ == '__main__':
    unittest.main()
