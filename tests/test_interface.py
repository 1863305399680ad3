"""The interface: its names stand in their files, and its arguments have their names."""

import ast
import pathlib
import unittest

from moveseen import (
    answers,
    changes,
    checks,
    costs,
    counting,
    families,
    learners,
    plans,
    ranking,
    redundancy,
    rows,
    strategies,
    wide,
    wirings,
)

PACKAGE = pathlib.Path(changes.__file__).parent

LISTED = {
    "errors.py": ["MoveError"],
    "changes.py": [
        "BadChanges", "NoSymbol", "all_changes", "way_to", "composed", "inverse", "order_of",
        "symbol_orbits", "kept_by",
    ],
    "families.py": [
        "BadFamily", "BadWiring", "BadInputs", "BadOutputs", "NoSource", "Family", "check_source",
        "shown", "settled_wiring", "settled_inputs", "settled_outputs",
    ],
    "wirings.py": [
        "NotSquare", "BadTimes", "applied", "outputs_of", "untouched", "joined", "power",
        "repetition", "undone", "times_to",
    ],
    "rows.py": [
        "BadRow", "moved", "orbit_of", "first_row", "is_free", "is_usable", "rows_of",
        "column_of", "same_column",
    ],
    "counting.py": [
        "BadLength", "BadCount", "orbit_count", "free_count", "capacity", "least_length",
    ],
    "ranking.py": ["NoRow", "usable_row", "usable_index"],
    "plans.py": ["plan_inputs", "find_confusion", "determines"],
    "wide.py": ["BadPositions", "NoPosition", "NoNumber", "BadColumn", "WidePlan"],
    "strategies.py": [
        "BadStrategy", "check_strategy", "answers_of", "unresolved", "depth", "plain", "trimmed",
        "inputs_seen",
    ],
    "checks.py": ["used", "inputs_that_check", "confused_with", "checks"],
    "answers.py": ["left_sources", "wiring_count", "wiring_at", "wiring_index"],
    "redundancy.py": ["redundant_inputs", "kept_inputs"],
    "costs.py": ["BadCosts", "cheapest_inputs", "cheapest_length", "least_check_cost"],
    "learners.py": [
        "NoInput", "NoOutput", "NoWiring", "NothingToUndo", "BadEvent", "Learner", "replayed",
    ],
}


def defined_in(body):
    return {part.name for part in body if isinstance(part, (ast.FunctionDef, ast.ClassDef))}


class InterfaceTest(unittest.TestCase):
    def test_names_are_defined_in_their_files(self):
        for file, names in LISTED.items():
            tree = ast.parse((PACKAGE / file).read_text(encoding="utf-8"))
            with self.subTest(file=file):
                self.assertEqual(set(names) - defined_in(tree.body), set())

    def test_methods_are_defined_in_their_class(self):
        self.assertIn("number_of", vars(families.Family))
        self.assertIn("__init__", vars(families.Family))
        for name in ("__init__", "row", "input_symbol", "column", "source_of"):
            self.assertIn(name, vars(wide.WidePlan))
        for name in (
            "__init__", "inputs", "next_input", "answer", "rule_out", "undo", "left", "wiring_count",
            "sure", "events",
        ):
            self.assertIn(name, vars(learners.Learner))

    def test_arguments_of_changes_by_name(self):
        given = [(1, 0, 2), (0, 2, 1)]
        made = changes.all_changes(symbols=3, given=given)
        self.assertEqual(len(made), 6)
        self.assertEqual(changes.way_to(symbols=3, given=given, change=(2, 0, 1)), (0, 1))
        self.assertEqual(changes.composed(first=(1, 0, 2), second=(0, 2, 1)), (2, 0, 1))
        self.assertEqual(changes.inverse(change=(1, 2, 0)), (2, 0, 1))
        self.assertEqual(changes.order_of(change=(1, 2, 0)), 3)
        self.assertEqual(changes.symbol_orbits(changes=made), ((0, 1, 2),))
        self.assertEqual(changes.kept_by(changes=made, symbol=2), ((0, 1, 2), (1, 0, 2)))

    def test_arguments_of_families_by_name(self):
        family = families.Family(symbols=3, positions=2, outputs=1, changes=[(1, 0, 2)], constants=[2])
        self.assertEqual(family.number_of(source=(1, 1)), 3)
        self.assertEqual(families.check_source(family=family, source=[1, 1]), (1, 1))
        self.assertEqual(families.shown(family=family, source=(1, 1), given=(2, 0)), 1)
        self.assertEqual(families.settled_wiring(family=family, wiring=[2]), (2,))
        self.assertEqual(families.settled_inputs(family=family, inputs=[[0, 1]]), ((0, 1),))
        told = families.settled_outputs(family=family, inputs=[[0, 1]], outputs=[[2]])
        self.assertEqual(told, ((2,),))

    def test_arguments_of_wirings_by_name(self):
        family = families.Family(symbols=3, positions=2, outputs=2, changes=[(1, 0, 2)], constants=[2])
        turned = ((1, 1), (0, 0))
        self.assertEqual(wirings.applied(family=family, wiring=turned, given=(2, 0)), (1, 2))
        told = wirings.outputs_of(family=family, wiring=turned, inputs=[(2, 0)])
        self.assertEqual(told, ((1, 2),))
        self.assertEqual(wirings.untouched(family=family), ((0, 0), (1, 0)))
        told = wirings.joined(family=family, first=turned, second=((1, 0), 2))
        self.assertEqual(told, ((0, 0), 2))
        self.assertEqual(wirings.power(family=family, wiring=turned, times=2), ((0, 1), (1, 1)))
        self.assertEqual(wirings.repetition(family=family, wiring=turned), (0, 4))
        self.assertEqual(wirings.undone(family=family, wiring=turned), ((1, 0), (0, 1)))
        told = wirings.times_to(family=family, wiring=turned, other=((0, 1), (1, 1)))
        self.assertEqual(told, 2)

    def test_arguments_of_rows_by_name(self):
        made = changes.all_changes(3, [(1, 0, 2)])
        self.assertEqual(rows.moved(row=(0, 2), change=(1, 0, 2)), (1, 2))
        self.assertEqual(rows.orbit_of(changes=made, row=(0, 2)), ((0, 2), (1, 2)))
        self.assertEqual(rows.first_row(changes=made, row=(1, 2)), (0, 2))
        self.assertIs(rows.is_free(changes=made, row=(1, 2)), True)
        self.assertIs(rows.is_usable(changes=made, constants=(), row=(0, 2)), True)
        family = families.Family(3, 2, 1, [(1, 0, 2)], [2])
        self.assertEqual(rows.rows_of(family=family, inputs=[(0, 2)]), ((0,), (2,)))
        self.assertEqual(rows.column_of(family=family, inputs=[(0, 2)], source=(0, 1)), (1,))
        told = rows.same_column(family=family, inputs=[(0, 2)], source=2)
        self.assertEqual(told, ((1, 0), (1, 1), 2))

    def test_arguments_of_counting_and_ranking_by_name(self):
        made = changes.all_changes(3, [(1, 0, 2)])
        self.assertEqual(counting.orbit_count(changes=made, length=1), 2)
        self.assertEqual(counting.free_count(changes=made, length=1), 1)
        self.assertEqual(counting.capacity(changes=made, constants=(0, 1), length=1), 0)
        self.assertEqual(counting.least_length(changes=made, constants=(), many=2), 2)
        told = ranking.usable_row(changes=made, constants=(), length=2, index=1)
        self.assertEqual(told, (0, 1))
        self.assertEqual(ranking.usable_index(changes=made, constants=(), row=(0, 1)), 1)

    def test_arguments_of_plans_and_wide_by_name(self):
        family = families.Family(3, 2, 1, [(1, 0, 2)], [2])
        self.assertEqual(plans.plan_inputs(family=family), ((0, 0), (0, 1)))
        told = plans.find_confusion(family=family, inputs=[(0, 2)])
        self.assertEqual(told, (((1, 0),), ((1, 1),)))
        self.assertIs(plans.determines(family=family, inputs=[(0, 2)]), False)
        plan = wide.WidePlan(symbols=3, changes=[(1, 0, 2)], constants=[2], positions=2)
        self.assertEqual(plan.row(position=1), (0, 1))
        self.assertEqual(plan.input_symbol(number=1, position=1), 1)
        self.assertEqual(plan.column(source=(1, 1)), (1, 0))
        self.assertEqual(plan.source_of(column=(1, 0)), (1, 1))

    def test_arguments_of_strategies_by_name(self):
        family = families.Family(3, 2, 1, [], [])
        strategy = strategies.plain(family=family, inputs=[(0, 1)])
        self.assertEqual(strategy, ((0, 1), (None, None, None)))
        self.assertIsNone(strategies.check_strategy(family=family, strategy=strategy))
        told = strategies.answers_of(family=family, strategy=strategy, source=(1, 0))
        self.assertEqual(told, (1,))
        self.assertIsNone(strategies.unresolved(family=family, strategy=strategy))
        self.assertEqual(strategies.depth(family=family, strategy=strategy), 1)
        self.assertEqual(strategies.trimmed(family=family, strategy=strategy), strategy)
        self.assertEqual(strategies.inputs_seen(family=family, strategy=strategy), 2)

    def test_arguments_of_checks_by_name(self):
        family = families.Family(4, 2, 1, [(1, 0, 2, 3)], [])
        self.assertEqual(checks.used(family=family, wiring=((1, 1),)), ((1,), ()))
        self.assertEqual(checks.inputs_that_check(family=family, wiring=((1, 1),)), ((2, 0),))
        told = checks.confused_with(family=family, wiring=((1, 1),), inputs=[(0, 0)])
        self.assertEqual(told, ((0, 1),))
        self.assertIs(checks.checks(family=family, wiring=((1, 1),), inputs=[(2, 0)]), True)

    def test_arguments_of_answers_by_name(self):
        told = {"family": families.Family(3, 2, 1, [], []), "inputs": [(0, 0)], "outputs": [(0,)]}
        self.assertEqual(answers.left_sources(**told), (((0, 0), (1, 0)),))
        self.assertEqual(answers.wiring_count(**told), 2)
        self.assertEqual(answers.wiring_at(**told, index=1), ((1, 0),))
        self.assertEqual(answers.wiring_index(**told, wiring=((1, 0),)), 1)

    def test_arguments_of_redundancy_and_costs_by_name(self):
        family = families.Family(2, 3, 1, [], [])
        inputs = [(0, 0, 1), (0, 1, 0), (0, 0, 0)]
        self.assertEqual(redundancy.redundant_inputs(family=family, inputs=inputs), (2,))
        self.assertEqual(redundancy.kept_inputs(family=family, inputs=inputs), (0, 1))
        told = costs.cheapest_inputs(family=family, length=2, costs=(0, 1))
        self.assertEqual(told, ((0, 0, 1), (0, 1, 0)))
        self.assertEqual(costs.cheapest_length(family=family, costs=(0, 1), most=5), (2, 2))
        told = costs.least_check_cost(family=family, wiring=((2, 0),), length=1, costs=(0, 1))
        self.assertEqual(told, 1)

    def test_arguments_of_learners_by_name(self):
        family = families.Family(3, 2, 2, [], [])
        learner = learners.Learner(family=family)
        self.assertEqual(learner.rule_out(output=0, source=(0, 0)), 2)
        self.assertEqual(learner.answer(output=(1, 0)), 1)
        again = learners.replayed(family=family, events=learner.events())
        self.assertEqual(again.events(), (("rule out", 0, (0, 0)), ("answer", (1, 0))))


if __name__ == "__main__":
    unittest.main()
