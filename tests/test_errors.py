"""The errors: all under MoveError, a ValueError."""

import unittest

from moveseen import (
    answers,
    changes,
    checks,
    costs,
    counting,
    errors,
    families,
    learners,
    plans,
    ranking,
    rows,
    strategies,
    wide,
    wirings,
)

KINDS = [
    changes.BadChanges,
    changes.NoSymbol,
    families.BadFamily,
    families.BadWiring,
    families.BadInputs,
    families.BadOutputs,
    families.NoSource,
    wirings.NotSquare,
    wirings.BadTimes,
    rows.BadRow,
    counting.BadLength,
    counting.BadCount,
    ranking.NoRow,
    wide.BadPositions,
    wide.NoPosition,
    wide.NoNumber,
    wide.BadColumn,
    strategies.BadStrategy,
    costs.BadCosts,
    learners.NoInput,
    learners.NoOutput,
    learners.NoWiring,
    learners.NothingToUndo,
    learners.BadEvent,
]


class ErrorTest(unittest.TestCase):
    def test_move_error_is_a_value_error(self):
        self.assertTrue(issubclass(errors.MoveError, ValueError))
        with self.assertRaises(ValueError):
            raise errors.MoveError("wrong")

    def test_all_errors_are_move_errors(self):
        for kind in KINDS:
            with self.subTest(kind=kind):
                self.assertTrue(issubclass(kind, errors.MoveError))
                self.assertIsNot(kind, errors.MoveError)

    def test_caught_as_move_error_and_as_value_error(self):
        for kind in (errors.MoveError, ValueError):
            with self.subTest(kind=kind):
                with self.assertRaises(kind):
                    changes.all_changes(9, ())
                with self.assertRaises(kind):
                    changes.kept_by(((0, 1),), 2)
                with self.assertRaises(kind):
                    families.Family(2, 13, 1, (), ())
                with self.assertRaises(kind):
                    families.Family(2, 1, 1, (), ()).number_of((1, 0))
                with self.assertRaises(kind):
                    wirings.untouched(families.Family(2, 1, 0, (), ()))
                with self.assertRaises(kind):
                    rows.moved((2,), (1, 0))
                with self.assertRaises(kind):
                    counting.orbit_count(((0, 1),), -1)
                with self.assertRaises(kind):
                    ranking.usable_row(((0, 1),), (), 1, 2)
                with self.assertRaises(kind):
                    wide.WidePlan(2, (), (), -1)
                with self.assertRaises(kind):
                    strategies.depth(families.Family(2, 1, 1, (), ()), 0)
                with self.assertRaises(kind):
                    plans.determines(families.Family(2, 1, 1, (), ()), [(2,)])
                with self.assertRaises(kind):
                    checks.used(families.Family(2, 1, 1, (), ()), ())
                with self.assertRaises(kind):
                    answers.wiring_count(families.Family(2, 1, 1, (), ()), (), [(0,)])
                with self.assertRaises(kind):
                    costs.cheapest_length(families.Family(2, 1, 1, (), ()), (1,), 1)
                with self.assertRaises(kind):
                    learners.replayed(families.Family(2, 1, 1, (), ()), [("answer", (0,))])


if __name__ == "__main__":
    unittest.main()
