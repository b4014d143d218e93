"""climbrow.errors: point 6 and the interface."""

import unittest

from climbrow import errors
from climbrow.errors import BadWord, ClimbrowError, Unsteady

TOLD = {
    "BadHands": ("mine_count", "theirs_count"),
    "BadWord": ("position",),
    "Unsteady": ("position",),
    "BadCard": ("side", "index"),
    "BadPairing": ("index",),
    "BadPlace": ("place",),
    "OutOfTurn": (),
    "Unreachable": ("wanted", "lowest", "highest"),
    "Contradiction": (),
    "BadBounds": ("index",),
    "BadSchedule": ("position",),
    "BadText": ("position",),
    "UnknownName": ("name",),
    "DuplicateName": ("name",),
}


class ErrorsTest(unittest.TestCase):

    def test_base_class_is_a_value_error(self):
        self.assertEqual(ClimbrowError.__bases__, (ValueError,))

    def test_each_error_keeps_what_it_is_created_with(self):
        for name, attributes in TOLD.items():
            values = ["mine", 3, 5][:len(attributes)]
            error = getattr(errors, name)(*values)
            self.assertEqual([getattr(error, attribute) for attribute in attributes], values, name)
            self.assertIsInstance(error, ClimbrowError)
            self.assertNotEqual(str(error), "", name)

    def test_each_error_is_created_by_the_names_of_the_interface(self):
        for name, attributes in TOLD.items():
            error = getattr(errors, name)(**{attribute: k for k, attribute in enumerate(attributes)})
            self.assertEqual([getattr(error, attribute) for attribute in attributes], list(range(len(attributes))))

    def test_each_error_derives_straight_from_the_base_class(self):
        for name in TOLD:
            if name != "Unsteady":
                self.assertEqual(getattr(errors, name).__bases__, (ClimbrowError,), name)

    def test_unsteady_is_a_bad_word(self):
        self.assertEqual(Unsteady.__bases__, (BadWord,))

    def test_errors_are_caught_by_their_classes_alone(self):
        for name in TOLD:
            for other in TOLD:
                if (name, other) != ("Unsteady", "BadWord") and name != other:
                    self.assertFalse(issubclass(getattr(errors, name), getattr(errors, other)), (name, other))


if __name__ == "__main__":
    unittest.main()
