"""The error classes of the interface."""

import unittest

from livestead import errors
from livestead.errors import (
    ChangeRefused, FileError, LivesteadError, NameTwice, RenameRefused, SourceError, TaskError,
)

ALL = (SourceError, NameTwice, ChangeRefused, FileError, RenameRefused, TaskError)


class Errors(unittest.TestCase):
    def test_bases(self):
        self.assertEqual(LivesteadError.__bases__, (ValueError,))
        for error in ALL:
            self.assertEqual(error.__bases__, (LivesteadError,), error)

    def test_fields_at(self):
        for error in (SourceError, ChangeRefused, FileError):
            for at in (0, 7, -1):
                self.assertEqual(error(at).at, at, error)

    def test_field_name(self):
        self.assertEqual(NameTwice("x").name, "x")

    def test_without_a_field(self):
        self.assertIsInstance(RenameRefused(), LivesteadError)
        self.assertIsInstance(TaskError(), LivesteadError)

    def test_number_of_arguments(self):
        for error in (SourceError, NameTwice, ChangeRefused, FileError):
            self.assertRaises(TypeError, error)
            self.assertRaises(TypeError, error, 1, 2)
        for error in (RenameRefused, TaskError):
            self.assertRaises(TypeError, error, 1)

    def test_they_have_a_message(self):
        for error in (SourceError(1), NameTwice("x"), ChangeRefused(1), FileError(1),
                      RenameRefused(), TaskError()):
            self.assertNotEqual(str(error), "")

    def test_they_are_defined_in_their_file(self):
        for error in (LivesteadError,) + ALL:
            self.assertEqual(error.__module__, "livestead.errors")
            self.assertIs(getattr(errors, error.__name__), error)

    def test_each_is_caught_as_what_it_is_only(self):
        with self.assertRaises(SourceError):
            try:
                raise SourceError(3)
            except (NameTwice, ChangeRefused, FileError, RenameRefused, TaskError):
                self.fail("another error")


if __name__ == "__main__":
    unittest.main()
