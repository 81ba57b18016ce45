"""Tests of the errors: [3], and what [2] says of them."""

import unittest

from chambercuts import errors
from chambercuts.errors import LockError
from tests.samples import EVERYTHING, unchanged

NAMES = {
    "InvalidNumber": "value", "InvalidLocks": "value", "InvalidKeys": "value", "InvalidKind": "value",
    "InvalidCut": "value", "InvalidCuts": "value", "InvalidTable": "value", "InvalidPair": "value",
    "InvalidQuestion": "value", "InvalidClaim": "value", "Undefined": "what", "NothingToUndo": "word",
}


def error_classes():
    return [(getattr(errors, name), attribute) for name, attribute in NAMES.items()]


class TheErrors(unittest.TestCase):

    def test_all_are_classes_of_the_module_and_there_are_no_others(self):
        found = {
            name for name, value in vars(errors).items()
            if isinstance(value, type) and issubclass(value, Exception)
        }
        self.assertEqual(found, set(NAMES) | {"LockError"})
        for name in found:
            self.assertEqual(getattr(errors, name).__module__, "chambercuts.errors")
            self.assertEqual(getattr(errors, name).__name__, name)

    def test_lock_error_is_a_value_error(self):
        self.assertTrue(issubclass(LockError, ValueError))
        self.assertEqual(LockError.__bases__, (ValueError,))

    def test_each_stands_under_lock_error_and_value_error(self):
        for error, _ in error_classes():
            self.assertTrue(issubclass(error, LockError), error)
            self.assertTrue(issubclass(error, ValueError), error)
            self.assertIsNot(error, LockError)

    def test_none_stands_under_another_one(self):
        for one, _ in error_classes():
            for other, _ in error_classes():
                self.assertEqual(issubclass(one, other), one is other, (one, other))
            self.assertFalse(issubclass(LockError, one))

    def test_each_keeps_its_argument_itself(self):
        for error, attribute in error_classes():
            for value in EVERYTHING:
                before = unchanged(value)
                made = error(value)
                self.assertIs(getattr(made, attribute), value)
                self.assertEqual(unchanged(value), before)

    def test_later_changes_to_an_argument_are_seen_in_the_error(self):
        for error, attribute in error_classes():
            value = [1, [2]]
            made = error(value)
            value[1].append(3)
            self.assertEqual(getattr(made, attribute), [1, [2, 3]])

    def test_the_argument_may_be_passed_by_its_name(self):
        for error, attribute in error_classes():
            value = [1]
            self.assertIs(getattr(error(**{attribute: value}), attribute), value)
            with self.assertRaises(TypeError):
                error(**{"other": value})

    def test_each_takes_just_one_argument(self):
        for error, _ in error_classes():
            with self.assertRaises(TypeError):
                error()
            with self.assertRaises(TypeError):
                error(1, 2)

    def test_each_has_only_its_own_attribute(self):
        for error, attribute in error_classes():
            self.assertEqual(vars(error(1)), {attribute: 1})

    def test_lock_error_catches_each(self):
        for error, attribute in error_classes():
            for value in EVERYTHING:
                with self.assertRaises(LockError) as caught:
                    raise error(value)
                self.assertIs(type(caught.exception), error)
                self.assertIs(getattr(caught.exception, attribute), value)

    def test_value_error_catches_each_and_the_others_do_not(self):
        for error, _ in error_classes():
            with self.assertRaises(ValueError):
                raise error(1)
            for other, _ in error_classes():
                if other is not error:
                    with self.assertRaises(error):
                        try:
                            raise error(1)
                        except other:
                            pass

    def test_none_is_iterable(self):
        for error, _ in error_classes():
            with self.assertRaises(TypeError):
                iter(error((1, 2)))

    def test_two_errors_of_equal_arguments_are_not_equal(self):
        for error, _ in error_classes():
            made = error(1)
            self.assertTrue(made == made)
            self.assertFalse(made == 1)


if __name__ == "__main__":
    unittest.main()
