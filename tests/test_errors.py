"""The interface's refusals: their classes, what they stand under, and their values."""

import unittest

from tagmachine import errors

BARE = ("BadRooms", "BadFuel", "BadCell", "Over")
VALUED = {"BadProgram": "row", "BadWord": "place", "BadText": "line"}


def made(name):
    """Make an error of each class as the program makes it."""
    kind = getattr(errors, name)
    return kind(7) if name in VALUED else kind("why")


class Errors(unittest.TestCase):
    def test_tag_error_stands_straight_under_value_error(self):
        self.assertEqual(errors.TagError.__bases__, (ValueError,))

    def test_each_stands_straight_under_tag_error(self):
        for name in (*BARE, *VALUED):
            self.assertEqual(getattr(errors, name).__bases__, (errors.TagError,), name)

    def test_each_is_a_tag_error_a_value_error_and_none_of_the_others(self):
        for name in (*BARE, *VALUED):
            error = made(name)
            self.assertIsInstance(error, errors.TagError)
            self.assertIsInstance(error, ValueError)
            for other in (*BARE, *VALUED):
                self.assertEqual(isinstance(error, getattr(errors, other)), name == other, (name, other))

    def test_each_has_its_value_and_no_other(self):
        for name in (*BARE, *VALUED):
            error = made(name)
            for attribute in VALUED.values():
                self.assertEqual(hasattr(error, attribute), VALUED.get(name) == attribute, (name, attribute))

    def test_values_are_set_when_created(self):
        self.assertEqual(errors.BadProgram(0).row, 0)
        self.assertEqual(errors.BadWord(71).place, 71)
        self.assertEqual(errors.BadText(60).line, 60)

    def test_each_object_has_a_value_of_its_own(self):
        one, two = errors.BadProgram(1), errors.BadProgram(2)
        self.assertEqual((one.row, two.row), (1, 2))


if __name__ == "__main__":
    unittest.main()
