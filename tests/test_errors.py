"""The errors: all under MoveError, a ValueError."""

import unittest

from moveseen import changes, errors, families


class ErrorTest(unittest.TestCase):
    def test_move_error_is_a_value_error(self):
        self.assertTrue(issubclass(errors.MoveError, ValueError))
        with self.assertRaises(ValueError):
            raise errors.MoveError("wrong")

    def test_all_errors_are_move_errors(self):
        kinds = [changes.BadChanges, changes.NoSymbol]
        kinds += [families.BadFamily, families.BadWiring, families.BadInputs]
        kinds += [families.BadOutputs, families.NoSource]
        for kind in kinds:
            with self.subTest(kind=kind):
                self.assertTrue(issubclass(kind, errors.MoveError))
                self.assertIsNot(kind, errors.MoveError)

    def test_no_error_is_another_one(self):
        kinds = [changes.BadChanges, changes.NoSymbol]
        kinds += [families.BadFamily, families.BadWiring, families.BadInputs]
        kinds += [families.BadOutputs, families.NoSource]
        for one in kinds:
            for other in kinds:
                with self.subTest(one=one, other=other):
                    self.assertEqual(issubclass(one, other), one is other)

    def test_caught_as_move_error_and_as_value_error(self):
        for kind in (errors.MoveError, ValueError):
            with self.subTest(kind=kind):
                with self.assertRaises(kind):
                    changes.all_changes(9, ())
                with self.assertRaises(kind):
                    changes.kept_by(((0, 1),), 2)
                with self.assertRaises(kind):
                    families.Family(2, 13, 1, (), ())
                with self.assertRaises(kind):
                    families.Family(2, 1, 1, (), ()).number_of((1, 0))


if __name__ == "__main__":
    unittest.main()
