"""Wide plans ([E4]): plans of up to 10 ** 60 positions, told without listing rows."""

from itertools import product

from moveseen.changes import BadChanges, all_changes
from moveseen.counting import capacity
from moveseen.families import BadFamily, Family, NoSource
from moveseen.plans import plan_inputs
from moveseen.ranking import usable_row
from moveseen.rows import column_of
from moveseen.wide import BadColumn, BadPositions, NoNumber, NoPosition, WidePlan
from tests.helpers import GROUPS, SMALL_FAMILIES, CallCase, closed_constants, look_of

HUGE = 10 ** 60
ATTRIBUTES = ("symbols", "changes", "constants", "positions", "length")


def told_of(symbols, changes, constants, positions):
    """All attributes of a new plan, so that calls can be compared by what they return."""
    plan = WidePlan(symbols, changes, constants, positions)
    return tuple(getattr(plan, name) for name in ATTRIBUTES)


def plan_of(family):
    return WidePlan(family.symbols, family.given, family.constants, family.positions)


class NewPlanTest(CallCase):
    def test_attributes(self):
        turns = all_changes(3, [(1, 2, 0)])
        self.check_call((3, turns, (), 2, 2), told_of, 3, [(1, 2, 0)], [], 2)
        self.check_call((3, turns, (0, 1, 2), 2, 2), told_of, 3, [(1, 2, 0)], [0, 1, 2], 2)
        self.check_call((3, turns, (), HUGE, 127), told_of, 3, [(1, 2, 0)], [], HUGE)
        self.check_call((2, ((0, 1), (1, 0)), (0, 1), HUGE, 201), told_of, 2, [(1, 0)], [0, 1], HUGE)
        self.check_call((8, (tuple(range(8)),), (3,), 7, 1), told_of, 8, [], [3], 7)
        self.check_call((8, (tuple(range(8)),), (3,), 8, 2), told_of, 8, [], [3], 8)

    def test_at_most_one_source(self):
        alone = ((0, 1),)
        self.check_call((2, alone, (), 0, 0), told_of, 2, [], [], 0)
        self.check_call((2, alone, (1,), 0, 0), told_of, 2, [], [1], 0)
        self.check_call((2, alone, (), 1, 0), told_of, 2, [], [], 1)
        self.check_call((2, ((0, 1), (1, 0)), (), 0, 0), told_of, 2, [(1, 0)], [], 0)

    def test_two_sources(self):
        alone = ((0, 1),)
        self.check_call((2, alone, (), 2, 1), told_of, 2, [], [], 2)
        self.check_call((2, alone, (1,), 1, 1), told_of, 2, [], [1], 1)
        self.check_call((2, alone, (0, 1), 0, 1), told_of, 2, [], [0, 1], 0)
        self.check_call((2, ((0, 1), (1, 0)), (), 1, 1), told_of, 2, [(1, 0)], [], 1)

    def test_all_numbers_of_positions_around_a_capacity(self):
        for changes in GROUPS[:8]:
            for constants in closed_constants(changes):
                for length in (1, 2, 5, 40):
                    many = capacity(changes, constants, length)
                    for positions in (many - 1, many, many + 1):
                        if positions >= 0 and positions * len(changes) + len(constants) > 1:
                            plan = WidePlan(len(changes[0]), changes[1:4], constants, positions)
                            self.assertGreaterEqual(capacity(changes, constants, plan.length), positions)
                            if plan.length > 1:
                                self.assertLess(capacity(changes, constants, plan.length - 1), positions)

    def test_what_was_passed_may_be_changed_afterwards(self):
        changes, constants = [[1, 0, 2]], [0, 1]
        plan = WidePlan(3, changes, constants, 5)
        changes[0][0] = 2
        changes.append([0, 2, 1])
        constants.append(2)
        self.assertEqual(plan.changes, ((0, 1, 2), (1, 0, 2)))
        self.assertEqual(plan.constants, (0, 1))
        self.assertIsInstance(plan.constants, tuple)

    def test_bad_family(self):
        for positions in (2, -1, HUGE + 1):
            for symbols in (-1, 0, 1, 9, 10):
                wanted = {"reason": "symbols"}
                self.check_error(BadFamily, wanted, WidePlan, symbols, [(0, 0)] * 4, [9, 9], positions)
            for constants in ([1, 0], [0, 0], [3], [-1, 0], [0, 1, 2, 3]):
                wanted = {"reason": "constants"}
                self.check_error(BadFamily, wanted, WidePlan, 3, [(1, 2, 0)], constants, positions)
            wanted = {"reason": "closed"}
            self.check_error(BadFamily, wanted, WidePlan, 3, [(1, 2, 0)], [0, 1], positions)
            self.check_error(BadFamily, wanted, WidePlan, 3, [(1, 0, 2)], [1], positions)

    def test_bad_changes(self):
        for positions in (2, -1, HUGE + 1):
            for given, number, reason in (
                ([(0, 1, 2)] * 4, None, "given"),
                ([(0, 1, 2), (0, 1)], 1, "length"),
                ([(0, 1, 3)], 0, "symbol"),
                ([(0, 1, 2), (1, 1, 2), (0,)], 1, "twice"),
            ):
                wanted = {"number": number, "reason": reason}
                for constants in ([], [2, 1]):
                    self.check_error(BadChanges, wanted, WidePlan, 3, given, constants, positions)
            given = [(1, 2, 3, 4, 0), (1, 0, 2, 3, 4)]
            wanted = {"number": None, "reason": "many"}
            self.check_error(BadChanges, wanted, WidePlan, 5, given, [4, 0], positions)

    def test_bad_positions(self):
        for positions in (-1, -HUGE, HUGE + 1, HUGE * 10):
            self.check_error(BadPositions, {}, WidePlan, 3, [(1, 2, 0)], [], positions)
            self.check_error(BadPositions, {}, WidePlan, 2, [], [0, 1], positions)


class FewPositionsTest(CallCase):
    def test_the_same_as_the_plan(self):
        for family in (*SMALL_FAMILIES, Family(4, 12, 1, [(1, 0, 2, 3), (1, 2, 3, 0)], [0, 1, 2, 3])):
            if family.outputs == 0:
                continue
            plan = plan_of(family)
            inputs = plan_inputs(family)
            self.assertEqual(plan.length, len(inputs))
            for position in range(family.positions):
                row = tuple(given[position] for given in inputs)
                self.assertEqual(plan.row(position), row)
                for number in range(len(inputs)):
                    self.assertEqual(plan.input_symbol(number, position), inputs[number][position])
            for source in family.sources:
                column = column_of(family, inputs, source)
                self.check_call(column, plan.column, source)
                self.check_call(source, plan.source_of, column)

    def test_each_column_of_the_length(self):
        for family in SMALL_FAMILIES:
            if family.outputs == 0:
                continue
            plan = plan_of(family)
            owners = {plan.column(source): source for source in family.sources}
            self.assertEqual(len(owners), len(family.sources))
            for column in product(range(family.symbols), repeat=plan.length):
                self.check_call(owners.get(column), plan.source_of, column)

    def test_no_inputs(self):
        self.check_call((), WidePlan(2, [], [], 1).row, 0)
        self.check_call((), WidePlan(2, [], [], 1).column, (0, 0))
        self.check_call((0, 0), WidePlan(2, [], [], 1).source_of, ())
        self.check_call((), WidePlan(2, [], [1], 0).column, 1)
        self.check_call(1, WidePlan(2, [], [1], 0).source_of, ())
        self.check_call(None, WidePlan(2, [], [], 0).source_of, ())
        self.check_call(None, WidePlan(2, [(1, 0)], [], 0).source_of, ())

    def test_no_positions(self):
        plan = WidePlan(3, [], [0, 2], 0)
        self.check_call((2,), plan.column, 2)
        self.check_call(2, plan.source_of, (2,))
        self.check_call(None, plan.source_of, (1,))


class ManyPositionsTest(CallCase):
    def setUp(self):
        self.turned = WidePlan(3, [(1, 2, 0)], [], HUGE)
        self.filled = WidePlan(2, [(1, 0)], [0, 1], HUGE)
        self.great = WidePlan(4, [(1, 0, 2, 3), (1, 2, 3, 0)], [0, 1, 2, 3], HUGE)

    def test_example_of_the_document(self):
        self.assertEqual(self.turned.length, 127)
        self.check_call((0,) * 125 + (1, 2), self.turned.row, 5)
        self.check_call((1,) * 125 + (2, 0), self.turned.column, (5, 1))
        self.check_call((5, 1), self.turned.source_of, (1,) * 125 + (2, 0))

    def test_a_row_is_0_and_the_number_of_the_position_to_the_base_3(self):
        for position in (0, 1, 2, 3, 3 ** 50, 10 ** 59 + 12345, HUGE - 1):
            digits = []
            for _ in range(126):
                digits.append(position // 3 ** len(digits) % 3)
            row = (0, *digits[::-1])
            self.check_call(row, self.turned.row, position)
            for number in (0, 1, 60, 125, 126):
                self.check_call(row[number], self.turned.input_symbol, number, position)

    def test_columns_and_back(self):
        for plan in (self.turned, self.filled, self.great):
            for position in (0, 1, 12345, 10 ** 30 + 7, HUGE - 2, HUGE - 1):
                row = plan.row(position)
                self.assertEqual(len(row), plan.length)
                for number in range(len(plan.changes)):
                    column = tuple(plan.changes[number][symbol] for symbol in row)
                    self.check_call(column, plan.column, (position, number))
                    self.check_call((position, number), plan.source_of, column)

    def test_the_first_and_the_last_position(self):
        first, last = self.filled.row(0), self.filled.row(HUGE - 1)
        self.assertEqual(first, (0,) * 200 + (1,))
        self.check_call((0, 0), self.filled.source_of, first)
        self.check_call((0, 1), self.filled.source_of, (1,) * 200 + (0,))
        self.check_call((HUGE - 1, 0), self.filled.source_of, last)
        behind = usable_row(self.filled.changes, (0, 1), 201, HUGE)
        self.check_call(None, self.filled.source_of, behind)
        self.check_call(None, self.filled.source_of, tuple(1 - symbol for symbol in behind))

    def test_constants_repeated(self):
        for plan in (self.filled, self.great):
            for constant in plan.constants:
                self.check_call((constant,) * plan.length, plan.column, constant)
                self.check_call(constant, plan.source_of, (constant,) * plan.length)
        # Without constants a symbol repeated is a row like others: the first one here.
        self.check_call((0, 2), self.turned.source_of, (2,) * 127)

    def test_columns_that_no_source_has(self):
        self.check_call(None, self.turned.source_of, (0,) + (2,) * 126)
        # Two symbols alone are left where they are by some change, so their orbit is not free.
        self.check_call(None, self.great.source_of, (0, 1) * (self.great.length // 2))

    def test_a_call_leaves_the_plan_as_it_is(self):
        before = look_of([getattr(self.great, name) for name in ATTRIBUTES])
        self.great.source_of([3] * self.great.length)
        self.great.column([7, 3])
        with self.assertRaises(BadColumn):
            self.great.source_of([9])
        self.assertEqual(look_of([getattr(self.great, name) for name in ATTRIBUTES]), before)


class WrongArgumentsTest(CallCase):
    def setUp(self):
        self.plan = WidePlan(3, [(1, 0, 2)], [2], 4)
        self.huge = WidePlan(3, [(1, 2, 0)], [], HUGE)

    def test_no_position(self):
        for position in (-1, -4, 4, 5, HUGE):
            self.check_error(NoPosition, {}, self.plan.row, position)
            for number in range(self.plan.length):
                self.check_error(NoPosition, {}, self.plan.input_symbol, number, position)
        for position in (-1, HUGE):
            self.check_error(NoPosition, {}, self.huge.row, position)
            self.check_error(NoPosition, {}, self.huge.input_symbol, 126, position)
        self.check_error(NoPosition, {}, WidePlan(2, [], [], 0).row, 0)

    def test_no_number_ahead_of_no_position(self):
        for number in (-1, self.plan.length, 300):
            for position in (0, 3, 4, -1):
                self.check_error(NoNumber, {}, self.plan.input_symbol, number, position)
        for number in (-1, 127):
            for position in (0, HUGE):
                self.check_error(NoNumber, {}, self.huge.input_symbol, number, position)
        self.check_error(NoNumber, {}, WidePlan(2, [], [], 1).input_symbol, 0, 0)

    def test_no_source(self):
        for source in ((4, 0), (-1, 0), (0, 2), (0, -1), 0, 1, 3, -1):
            self.check_error(NoSource, {}, self.plan.column, source)
        for source in ((HUGE, 0), (0, 3), 0):
            self.check_error(NoSource, {}, self.huge.column, source)
        self.check_error(NoSource, {}, WidePlan(2, [], [], 0).column, (0, 0))

    def test_bad_column(self):
        self.assertEqual(self.plan.length, 2)
        for column in ((), (0,), (0, 0, 0), (2,) * 4, (0, 3), (-1, 0), (3, 3), (0, 0, 3)):
            self.check_error(BadColumn, {}, self.plan.source_of, column)
        for column in ((0,) * 126, (0,) * 128, (0,) * 126 + (3,), (-1,) + (0,) * 126):
            self.check_error(BadColumn, {}, self.huge.source_of, column)
        self.check_error(BadColumn, {}, WidePlan(2, [], [], 1).source_of, (0,))
