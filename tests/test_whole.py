"""The program as a whole ([0.1] to [0.3]): its parts used one behind the other."""

from itertools import product

from moveseen.answers import left_sources, wiring_at, wiring_count, wiring_index
from moveseen.checks import checks, confused_with, inputs_that_check, used
from moveseen.costs import cheapest_inputs, cheapest_length, least_check_cost
from moveseen.counting import capacity, orbit_count
from moveseen.families import Family
from moveseen.learners import Learner, replayed
from moveseen.plans import determines, plan_inputs
from moveseen.redundancy import kept_inputs, redundant_inputs
from moveseen.rows import column_of, rows_of
from moveseen.strategies import depth, inputs_seen, plain, trimmed, unresolved
from moveseen.wide import WidePlan
from moveseen.wirings import joined, outputs_of, power, repetition, times_to, undone, untouched
from tests.helpers import (
    SMALL_FAMILIES,
    CallCase,
    all_inputs,
    all_wirings,
    check_by_hand,
    determine_by_hand,
    gives_by_hand,
    look_of,
    rows_as,
)

SQUARE = Family(4, 3, 3, [(1, 0, 3, 2)], [2, 3])
TURNS = Family(3, 2, 2, [(1, 2, 0)], [0, 1, 2])
BYTES = Family(2, 12, 12, [(1, 0)], [0, 1])
MOVED = ((1, 1), (2, 0), (0, 0))
# Families that have an output and at least two sources.
WITH_CHOICE = [family for family in SMALL_FAMILIES if family.outputs and len(family.sources) > 1]


class RepeatedWiringTest(CallCase):
    def check_seen(self, family, wiring):
        """The inputs of the plan leave a wiring alone."""
        inputs = plan_inputs(family)
        outputs = outputs_of(family, wiring, inputs)
        self.check_call(1, wiring_count, family, inputs, outputs)
        self.check_call(wiring, wiring_at, family, inputs, outputs, 0)
        self.check_call(0, wiring_index, family, inputs, outputs, wiring)
        self.check_call(tuple((source,) for source in wiring), left_sources, family, inputs, outputs)

    def test_a_repeated_wiring_is_seen_by_the_plan(self):
        for times in (0, 1, 2, 3, 5, 10 ** 60):
            self.check_seen(SQUARE, power(SQUARE, MOVED, times))
            self.check_seen(SQUARE, power(SQUARE, ((1, 1), (2, 0), 3), times))

    def test_joined_and_undone_wirings_are_seen_by_the_plan(self):
        back = undone(SQUARE, MOVED)
        self.check_seen(SQUARE, back)
        self.assertEqual(joined(SQUARE, MOVED, back), untouched(SQUARE))
        for wiring in all_wirings(TURNS):
            self.check_seen(TURNS, joined(TURNS, wiring, wiring))

    def test_outputs_tell_how_often_a_wiring_was_applied(self):
        inputs = plan_inputs(SQUARE)
        tail, length = repetition(SQUARE, MOVED)
        for times in range(tail + length):
            outputs = outputs_of(SQUARE, power(SQUARE, MOVED, times), inputs)
            self.assertEqual(times_to(SQUARE, MOVED, wiring_at(SQUARE, inputs, outputs, 0)), times)

    def test_twelve_bits(self):
        wiring = tuple((5 * output % 12, output % 2) for output in range(12))
        for times in (1, 7, 10 ** 59):
            self.check_seen(BYTES, power(BYTES, wiring, times))
        inputs = plan_inputs(BYTES)
        learner = Learner(BYTES)
        for given, output in zip(inputs, outputs_of(BYTES, wiring, inputs)):
            self.assertEqual(learner.next_input(), given)
            learner.answer(output)
        self.assertEqual(learner.sure(), wiring)

    def test_all_wirings_of_small_families_are_seen_by_the_plan(self):
        for family in SMALL_FAMILIES:
            inputs = plan_inputs(family)
            for wiring in all_wirings(family):
                outputs = outputs_of(family, wiring, inputs)
                self.assertEqual(wiring_count(family, inputs, outputs), 1)
                self.assertEqual(wiring_at(family, inputs, outputs, 0), wiring)


class FewestInputsTest(CallCase):
    def test_when_inputs_determine_every_wiring(self):
        for family in WITH_CHOICE:
            for many in range(4):
                rows = all_inputs(family, many, 300)
                if rows:
                    wanted = many >= 1 and family.positions <= capacity(family.changes, family.constants, many)
                    self.assertEqual(any(determine_by_hand(family, inputs) for inputs in rows), wanted)
                    self.assertEqual(many >= len(plan_inputs(family)), wanted)

    def test_when_inputs_check_a_wiring(self):
        for family in WITH_CHOICE:
            for wiring in all_wirings(family)[::4]:
                positions, constants = used(family, wiring)
                whole = len(positions) == family.positions
                for many in range(3):
                    rows = all_inputs(family, many, 100)
                    if rows:
                        barred = {tuple(sorted({change[c] for change in family.changes})) for c in constants}
                        left = orbit_count(family.changes, many) - len(barred)
                        wanted = len(positions) <= capacity(family.changes, family.constants, many)
                        wanted = many >= 1 and wanted and (whole or left > len(positions))
                        self.assertEqual(any(check_by_hand(family, wiring, inputs) for inputs in rows), wanted)
                        self.assertEqual(many >= len(inputs_that_check(family, wiring)), wanted)

    def test_choosing_by_outputs_never_saves_inputs(self):
        # All strategies with one input fewer than the plan, where these are few: none tells all apart.
        tried = 0
        for family in WITH_CHOICE:
            given = list(product(range(family.symbols), repeat=family.positions))
            fewer = len(plan_inputs(family)) - 1
            if family.outputs == 1 and (fewer == 1 or fewer == 2 and len(given) <= 4):
                lasts = [(row, (None,) * family.symbols) for row in given]
                strategies = lasts
                if fewer == 2:
                    strategies = [(row, nexts) for row in given for nexts in product(lasts, repeat=family.symbols)]
                for strategy in strategies:
                    self.assertIsNotNone(unresolved(family, strategy))
                    tried += 1
        self.assertGreater(tried, 50)

    def test_the_plan_as_a_strategy(self):
        for family in WITH_CHOICE:
            inputs = plan_inputs(family)
            if family.outputs == 1:
                strategy = plain(family, inputs)
                self.check_call(None, unresolved, family, strategy)
                self.check_call(len(inputs), depth, family, strategy)
                kept = trimmed(family, strategy)
                self.check_call(None, unresolved, family, kept)
                # In the worst case trimming saves nothing, but it never costs anything.
                self.check_call(len(inputs), depth, family, kept)
                self.assertLessEqual(inputs_seen(family, kept), inputs_seen(family, strategy))

    def test_no_input_of_the_plan_can_be_left_out(self):
        for family in WITH_CHOICE:
            inputs = plan_inputs(family)
            self.check_call(tuple(range(len(inputs))), kept_inputs, family, inputs)
            self.check_call((), redundant_inputs, family, inputs)
            twice = (len(inputs) - 1, len(inputs))
            self.check_call(twice, redundant_inputs, family, (*inputs, inputs[-1]))

    def test_the_plan_and_the_wide_plan_are_the_same(self):
        for family in WITH_CHOICE:
            plan = WidePlan(family.symbols, family.given, family.constants, family.positions)
            rows = tuple(plan.row(position) for position in range(family.positions))
            self.assertEqual(rows, rows_of(family, plan_inputs(family)))
            for source in family.sources:
                self.check_call(source, plan.source_of, column_of(family, plan_inputs(family), source))

    def test_costs_of_the_fewest_inputs(self):
        for family in WITH_CHOICE:
            inputs = plan_inputs(family)
            costs = (1,) * family.symbols
            self.assertIsNone(cheapest_inputs(family, len(inputs) - 1, costs))
            told = cheapest_length(family, costs, len(inputs) + 1)
            self.assertEqual(told, (len(inputs), len(inputs) * family.positions))
            self.assertIs(determines(family, cheapest_inputs(family, len(inputs) + 1, costs)), True)


class CheckedWiringTest(CallCase):
    def check_alone(self, family, wiring):
        inputs = inputs_that_check(family, wiring)
        outputs = outputs_of(family, wiring, inputs)
        self.assertEqual(wiring_count(family, inputs, outputs), 1)
        self.assertEqual(wiring_at(family, inputs, outputs, 0), wiring)
        self.assertIsNone(confused_with(family, wiring, inputs))
        self.assertLessEqual(len(inputs), len(plan_inputs(family)))
        costs = (2,) * family.symbols
        self.assertEqual(least_check_cost(family, wiring, len(inputs), costs), 2 * family.positions * len(inputs))

    def test_its_outputs_leave_it_alone(self):
        for family in SMALL_FAMILIES:
            for wiring in all_wirings(family):
                self.check_alone(family, wiring)
        for wiring in all_wirings(TURNS):
            self.check_alone(TURNS, wiring)
        for times in range(4):
            self.check_alone(SQUARE, power(SQUARE, ((1, 1), (2, 0), 3), times))

    def test_two_wirings_that_are_confused_are_both_left(self):
        for wiring in all_wirings(TURNS):
            inputs = [(0, 1)]
            other = confused_with(TURNS, wiring, inputs)
            self.assertIs(checks(TURNS, wiring, inputs), other is None)
            if other is not None:
                outputs = outputs_of(TURNS, wiring, inputs)
                self.assertEqual(gives_by_hand(TURNS, other, inputs), outputs)
                self.assertIsNotNone(wiring_index(TURNS, inputs, outputs, other))


class ListsAndTuplesTest(CallCase):
    def test_families_from_lists_and_from_tuples(self):
        for parts in ((3, 2, 2, ((1, 2, 0),), (0, 1, 2)), (4, 3, 3, ((1, 0, 3, 2),), (2, 3)), (2, 3, 1, (), ())):
            families = [Family(*row) for row in self.kinds_of(parts)]
            wiring = families[0].sources[-families[0].outputs:]
            told = [self.told_of(family, wiring) for family in families]
            for other in told[1:]:
                self.assertEqual(other, told[0])

    def told_of(self, family, wiring):
        """What many functions tell of a family, by their looks."""
        inputs = plan_inputs(family)
        outputs = outputs_of(family, wiring, inputs)
        learner = Learner(family)
        learner.rule_out(0, family.sources[0])
        return look_of([
            family,
            inputs,
            outputs,
            left_sources(family, inputs[:1], outputs[:1]),
            inputs_that_check(family, wiring),
            confused_with(family, wiring, inputs[:1]),
            cheapest_inputs(family, 3, list(range(family.symbols))),
            kept_inputs(family, inputs),
            learner.left(),
            replayed(family, rows_as(learner.events(), list, list)).left(),
        ])

    def test_a_family_stays_as_it_is(self):
        for family in (TURNS, SQUARE, *SMALL_FAMILIES):
            before = look_of(family)
            for wiring in all_wirings(family)[:2]:
                inputs_that_check(family, wiring)
                learner = Learner(family)
                while learner.next_input() is not None:
                    learner.answer(outputs_of(family, wiring, [learner.next_input()])[0])
            cheapest_length(family, [1] * family.symbols, 3)
            self.assertEqual(look_of(family), before)
