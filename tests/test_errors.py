"""The section keeproom/errors.py of the interface."""

import unittest

from keeproom import errors

WITH_WHAT_AND_AT = ("PlantError", "JournalError")
WITHOUT_FIELDS = (
    "OrdersError", "NothingPossible", "CannotKeep", "CanKeep", "NotItsTurn", "JournalFull", "Resumed", "PapersError",
    "KeptError", "NoSuch",
)
ALL = WITH_WHAT_AND_AT + ("RowError",) + WITHOUT_FIELDS


class ErrorsTest(unittest.TestCase):
    def test_base_class_is_a_value_error(self):
        self.assertEqual(errors.KeeproomError.__bases__, (ValueError,))

    def test_each_is_a_direct_subclass_of_the_base_class(self):
        for name in ALL:
            with self.subTest(name):
                self.assertEqual(getattr(errors, name).__bases__, (errors.KeeproomError,))

    def test_each_is_defined_in_this_file(self):
        for name in ALL + ("KeeproomError",):
            with self.subTest(name):
                self.assertEqual(getattr(errors, name).__module__, "keeproom.errors")
                self.assertEqual(getattr(errors, name).__name__, name)

    def test_there_are_no_others(self):
        found = [name for name in vars(errors) if isinstance(getattr(errors, name), type)]
        self.assertEqual(sorted(found), sorted(ALL + ("KeeproomError",)))

    def test_plant_error_has_what_and_at(self):
        for what in ("device", "question", "long", "much"):
            for at in (0, 2):
                with self.assertRaises(errors.PlantError) as caught:
                    raise errors.PlantError(what, at)
                self.assertEqual((caught.exception.what, caught.exception.at), (what, at))

    def test_journal_error_has_what_and_at(self):
        for what in ("changed", "cannot"):
            for at in (0, 199):
                with self.assertRaises(errors.JournalError) as caught:
                    raise errors.JournalError(what, at)
                self.assertEqual((caught.exception.what, caught.exception.at), (what, at))

    def test_row_error_has_at(self):
        for at in (0, 7):
            with self.assertRaises(errors.RowError) as caught:
                raise errors.RowError(at)
            self.assertEqual(caught.exception.at, at)
            self.assertFalse(hasattr(caught.exception, "what"))

    def test_fields_are_passed_by_name_too(self):
        error = errors.PlantError(at=1, what="device")
        self.assertEqual((error.what, error.at), ("device", 1))
        error = errors.JournalError(at=1, what="cannot")
        self.assertEqual((error.what, error.at), ("cannot", 1))
        self.assertEqual(errors.RowError(at=3).at, 3)

    def test_fields_are_needed(self):
        for make in (errors.PlantError, errors.JournalError, errors.RowError):
            with self.assertRaises(TypeError):
                make()
        for make in (errors.PlantError, errors.JournalError):
            with self.assertRaises(TypeError):
                make("device")

    def test_those_without_fields_are_created_without_arguments(self):
        for name in WITHOUT_FIELDS:
            with self.subTest(name):
                error = getattr(errors, name)()
                self.assertFalse(hasattr(error, "what"))
                self.assertFalse(hasattr(error, "at"))

    def test_all_are_caught_as_keeproom_errors(self):
        made = [errors.PlantError("long", 0), errors.JournalError("cannot", 0), errors.RowError(0)]
        made += [getattr(errors, name)() for name in WITHOUT_FIELDS]
        for error in made:
            with self.subTest(type(error).__name__), self.assertRaises(errors.KeeproomError):
                raise error


if __name__ == "__main__":
    unittest.main()
