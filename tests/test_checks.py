"""Checks (part G): the fewest inputs that check a wiring, and wirings that are confused with it."""

from itertools import product

from moveseen.changes import symbol_orbits
from moveseen.checks import checks, confused_with, inputs_that_check, used
from moveseen.counting import capacity, orbit_count
from moveseen.families import BadInputs, BadWiring, Family
from moveseen.plans import plan_inputs
from moveseen.rows import rows_of
from tests.helpers import (
    SMALL_FAMILIES,
    CallCase,
    all_inputs,
    all_wirings,
    check_by_hand,
    gives_by_hand,
    orbits_by_hand,
    usable_by_hand,
)

CONSTANTS = Family(2, 1, 2, [], [0, 1])
SWAPPED = Family(4, 2, 1, [(1, 0, 2, 3)], [])
MANY = Family(4, 5, 4, [(1, 0, 2, 3)], [0, 1, 3])
PAIRS = Family(2, 4, 2, [(1, 0)], [0, 1])
GREAT = Family(4, 12, 12, [(1, 0, 2, 3), (1, 2, 3, 0)], [0, 1, 2, 3])
NO_OUTPUTS = Family(3, 2, 0, [(1, 2, 0)], [0, 1, 2])
ONE_SOURCE = Family(2, 1, 3, [], [])
ONE_CONSTANT = Family(3, 0, 2, [], [1])

SMALL_SETS = [
    (2, 3, 2, [], [0]),
    (2, 3, 1, [(1, 0)], [0, 1]),
    (3, 2, 2, [], [0, 2]),
    (3, 3, 1, [(1, 0, 2)], [0, 1]),
    (4, 3, 1, [(1, 0, 3, 2)], [2, 3]),
    (4, 2, 2, [(1, 0, 3, 2)], [0, 1, 2, 3]),
    (3, 3, 1, [(1, 0, 2), (0, 2, 1)], []),
]


def used_by_hand(wiring):
    positions = {source[0] for source in wiring if not isinstance(source, int)}
    return sorted(positions), sorted(source for source in wiring if isinstance(source, int))


def rows_by_hand(family, wiring, length):
    """The rows of [G2], from rows that are listed; None if so many inputs do not check the wiring."""
    positions, constants = used_by_hand(wiring)
    usable = usable_by_hand(family.changes, family.constants, length)
    if len(usable) < len(positions):
        return None
    rows = dict(zip(positions, usable))
    taken = list(rows.values())
    left = []
    for orbit in orbits_by_hand(family.changes, length):
        if orbit[0] not in taken and not any((constant,) * length in orbit for constant in constants):
            left.append(orbit[0])
    if len(positions) < family.positions and not left:
        return None
    return tuple(rows[position] if position in rows else left[0] for position in range(family.positions))


class UsedTest(CallCase):
    def test_positions_and_constants(self):
        self.check_call(((1, 4), (0, 3)), used, MANY, (3, (4, 1), 0, (1, 0)))
        self.check_call(((0, 1, 2, 4), ()), used, MANY, ((4, 0), (2, 1), (1, 0), (0, 1)))
        self.check_call(((), (0, 1, 3)), used, MANY, (3, 0, 1, 1))
        self.check_call(((3,), (1,)), used, MANY, ((3, 0), 1, (3, 1), 1))

    def test_no_outputs_and_one_source(self):
        self.check_call(((), ()), used, NO_OUTPUTS, ())
        self.check_call(((0,), ()), used, ONE_SOURCE, ((0, 0),) * 3)
        self.check_call(((), (1,)), used, ONE_CONSTANT, (1, 1))

    def test_all_positions_and_all_constants(self):
        wiring = tuple((11 - output, output) for output in range(12))
        self.check_call((tuple(range(12)), ()), used, GREAT, wiring)
        self.check_call(((5,), (0, 1, 2, 3)), used, GREAT, (3, 2, 1, 0) + ((5, 7),) * 8)

    def test_all_wirings_of_small_families(self):
        for family in SMALL_FAMILIES:
            for wiring in all_wirings(family):
                positions, constants = used_by_hand(wiring)
                told = used(family, wiring)
                self.assertEqual(told, (tuple(positions), tuple(sorted(set(constants)))))


class InputsTest(CallCase):
    def test_examples_of_the_document(self):
        self.check_call(((0,), (1,)), inputs_that_check, CONSTANTS, (0, 1))
        self.check_call(((1,),), inputs_that_check, CONSTANTS, (0, 0))
        self.check_call(((2, 0),), inputs_that_check, SWAPPED, ((1, 1),))

    def test_no_outputs_and_at_most_one_source(self):
        self.check_call((), inputs_that_check, NO_OUTPUTS, ())
        self.check_call((), inputs_that_check, ONE_SOURCE, ((0, 0),) * 3)
        self.check_call((), inputs_that_check, ONE_CONSTANT, (1, 1))
        self.check_call((), inputs_that_check, Family(4, 12, 0, [], [0, 1]), ())

    def test_all_positions_used(self):
        # Nothing else needs a row, so the inputs are those of the plan.
        for family in (Family(2, 3, 3, [], []), Family(2, 3, 4, [(1, 0)], [0, 1]), GREAT):
            wiring = [(position, 0) for position in range(family.positions)]
            wiring += [(0, 0)] * (family.outputs - family.positions)
            self.check_call(plan_inputs(family), inputs_that_check, family, tuple(wiring))

    def test_some_positions_used(self):
        self.check_call(((0, 0, 0, 0), (0, 0, 1, 0)), inputs_that_check, PAIRS, ((2, 1), (2, 0)))
        self.check_call(((0, 0, 0, 0), (0, 0, 1, 0)), inputs_that_check, PAIRS, ((2, 1), (2, 1)))
        # Of the usable rows 001, 010 and 011 the first two are in use, and 000 is left for the others.
        inputs = ((0, 0, 0, 0), (0, 0, 1, 0), (0, 1, 0, 0))
        self.check_call(inputs, inputs_that_check, PAIRS, ((2, 1), (1, 0)))
        # With the constant 0 in use 000 is not left, so 010 is the first row that is.
        self.check_call(((0, 0, 0, 0), (1, 1, 0, 1), (0, 0, 1, 0)), inputs_that_check, PAIRS, ((2, 1), 0))

    def test_no_positions_used(self):
        self.check_call(((0,) * 4, (1,) * 4), inputs_that_check, PAIRS, (0, 1))
        self.check_call(((2,) * 5,), inputs_that_check, MANY, (0, 1, 3, 3))
        self.check_call(((2,) * 5,), inputs_that_check, MANY, (0, 0, 0, 0))
        self.check_call(((0,) * 5,), inputs_that_check, MANY, (3, 3, 3, 3))
        self.check_call(((),), inputs_that_check, Family(2, 0, 1, [], [0, 1]), (1,))

    def test_the_others_may_look_like_a_constant_that_is_not_used(self):
        family = Family(2, 2, 1, [], [0, 1])
        self.check_call(((0, 0), (0, 1)), inputs_that_check, family, ((1, 0),))
        self.check_call(((0, 0),), inputs_that_check, family, (1,))
        self.check_call(((1, 1),), inputs_that_check, family, (0,))

    def test_the_row_of_the_others_need_not_be_free(self):
        inputs = ((0, 0), (0, 1))
        self.check_call(inputs, inputs_that_check, Family(2, 2, 1, [(1, 0)], [0, 1]), ((1, 0),))
        family = Family(3, 2, 1, [(1, 0, 2)], [])
        self.check_call(((2, 0),), inputs_that_check, family, ((1, 1),))
        self.check_call(((0, 2),), inputs_that_check, family, ((0, 1),))

    def check_all_wirings(self, family):
        for wiring in all_wirings(family):
            length = 1
            while rows_by_hand(family, wiring, length) is None:
                length += 1
            inputs = inputs_that_check(family, wiring)
            self.assertEqual(len(inputs), length)
            self.assertEqual(rows_of(family, inputs), rows_by_hand(family, wiring, length))
            self.assertIs(checks(family, wiring, inputs), True)
            self.assertTrue(check_by_hand(family, wiring, inputs))

    def test_all_wirings_of_small_families(self):
        for family in SMALL_FAMILIES:
            if family.outputs and len(family.sources) > 1:
                self.check_all_wirings(family)
        for parts in SMALL_SETS:
            self.check_all_wirings(Family(*parts))

    def test_no_fewer_inputs_check(self):
        tried = 0
        for family in (*SMALL_FAMILIES, *[Family(*parts) for parts in SMALL_SETS]):
            for wiring in all_wirings(family)[::3]:
                for many in range(len(inputs_that_check(family, wiring))):
                    for inputs in all_inputs(family, many, 300):
                        self.assertFalse(check_by_hand(family, wiring, inputs))
                        tried += 1
        self.assertGreater(tried, 500)

    def test_when_there_are_inputs_that_check(self):
        # As [0.2] and [G2] tell it, from the numbers of orbits.
        for family in SMALL_FAMILIES:
            if family.outputs == 0 or len(family.sources) < 2:
                continue
            for wiring in all_wirings(family)[::2]:
                positions, constants = used(family, wiring)
                orbits = [orbit for orbit in symbol_orbits(family.changes) if set(orbit) & set(constants)]
                for many in range(3):
                    rows = all_inputs(family, many, 100)
                    if rows:
                        wanted = many >= 1 and capacity(family.changes, family.constants, many) >= len(positions)
                        left = orbit_count(family.changes, many) - len(orbits)
                        wanted = wanted and (len(positions) == family.positions or left > len(positions))
                        self.assertEqual(any(check_by_hand(family, wiring, row) for row in rows), wanted)

    def test_the_greatest_family(self):
        wiring = tuple((position, 3 * position % 24) for position in (7, 2, 9)) + (0,) * 9
        inputs = inputs_that_check(GREAT, wiring)
        self.assertEqual(len(inputs), 4)
        self.assertTrue(checks(GREAT, wiring, inputs))
        rows = rows_of(GREAT, inputs)
        self.assertEqual([rows[2], rows[7], rows[9]], usable_by_hand(GREAT.changes, GREAT.constants, 4)[:3])
        self.assertEqual({rows[position] for position in (0, 1, 3, 4, 5, 6, 8, 10, 11)}, {(0, 0, 0, 1)})

    def test_a_row_listed_late(self):
        # Eight constants in use and no changes: the first row of two symbols that is left is (0, 1).
        family = Family(8, 3, 8, [], list(range(8)))
        self.check_call(((0,) * 3, (1,) * 3), inputs_that_check, family, tuple(range(8)))
        family = Family(8, 3, 9, [], list(range(8)))
        self.check_call(((0, 0, 0), (2, 1, 2)), inputs_that_check, family, (*range(8), (1, 0)))

    def test_bad_wiring(self):
        for wiring, output, reason in (
            ((), None, "length"),
            (((2, 0), (0, 2)), None, "length"),
            (((2, 0),), 0, "position"),
            (((-1, 5),), 0, "position"),
            (((1, 2),), 0, "change"),
            ((0,), 0, "constant"),
        ):
            wanted = {"output": output, "reason": reason}
            self.check_error(BadWiring, wanted, used, SWAPPED, wiring)
            self.check_error(BadWiring, wanted, inputs_that_check, SWAPPED, wiring)
        wanted = {"output": None, "reason": "length"}
        self.check_error(BadWiring, wanted, inputs_that_check, NO_OUTPUTS, (0,))
        wanted = {"output": 1, "reason": "constant"}
        self.check_error(BadWiring, wanted, inputs_that_check, ONE_CONSTANT, (1, 0))


class ConfusedTest(CallCase):
    def check_both(self, wanted, family, wiring, inputs):
        self.check_call(wanted, confused_with, family, wiring, inputs)
        self.check_call(wanted is None, checks, family, wiring, inputs)

    def test_examples_of_the_document(self):
        self.check_both(None, CONSTANTS, (0, 1), [(0,), (1,)])
        self.check_both(None, CONSTANTS, (0, 0), [(1,)])
        self.check_both(((0, 0), (0, 0)), CONSTANTS, (0, 0), [(0,)])
        self.check_both(None, CONSTANTS, (1, 1), [(0,)])
        self.check_both(None, SWAPPED, ((1, 1),), [(2, 0)])

    def test_no_outputs_and_one_source(self):
        for inputs in ([], [(0, 0)], [(0, 0)] * 12):
            self.check_both(None, NO_OUTPUTS, (), inputs)
        for inputs in ([], [(0,)], [(1,), (0,)]):
            self.check_both(None, ONE_SOURCE, ((0, 0),) * 3, inputs)
        for inputs in ([], [()]):
            self.check_both(None, ONE_CONSTANT, (1, 1), inputs)

    def test_no_inputs(self):
        first = ((0, 0), (0, 0))
        self.check_both(first, CONSTANTS, (0, 1), [])
        self.check_both(((0, 0), 0), CONSTANTS, first, [])
        self.check_both(first, CONSTANTS, ((0, 0), 0), [])
        self.check_both(((0, 1),), SWAPPED, ((0, 0),), [])

    def test_the_first_other_one_before_this_one(self):
        family = Family(2, 3, 3, [], [0])
        inputs = [(0, 1, 0)]
        self.check_both(((0, 0), (1, 0), (0, 0)), family, (0, (1, 0), 0), inputs)
        self.check_both(((0, 0), (1, 0), (0, 0)), family, ((0, 0), (1, 0), 0), inputs)
        self.check_both(((1, 0), (1, 0), (0, 0)), family, ((1, 0), (1, 0), (2, 0)), inputs)

    def test_the_first_other_one_behind_this_one(self):
        family = Family(2, 3, 3, [], [0])
        inputs = [(0, 1, 0)]
        self.check_both(((0, 0), (1, 0), (2, 0)), family, ((0, 0), (1, 0), (0, 0)), inputs)
        self.check_both(((2, 0), (1, 0), (1, 0)), family, ((0, 0), (1, 0), (1, 0)), inputs)
        self.check_both(((1, 0), (2, 0), (1, 0)), family, ((1, 0), (0, 0), (1, 0)), inputs)
        self.check_both(None, family, ((1, 0), (1, 0), (1, 0)), inputs)

    def test_all_wirings_and_inputs_of_small_families(self):
        for family in SMALL_FAMILIES:
            wirings = all_wirings(family)
            for many in range(3):
                for inputs in all_inputs(family, many, 16):
                    given = {wiring: gives_by_hand(family, wiring, inputs) for wiring in wirings}
                    for wiring in wirings:
                        others = [other for other in wirings if other != wiring and given[other] == given[wiring]]
                        wanted = others[0] if others else None
                        self.assertEqual(confused_with(family, wiring, inputs), wanted)
                        self.assertIs(checks(family, wiring, inputs), wanted is None)

    def test_the_greatest_family(self):
        wiring = ((11, 0),) * 12
        inputs = [tuple(row) for row in product((0, 1), repeat=12)][5:17]
        told = confused_with(GREAT, wiring, inputs)
        self.assertEqual(gives_by_hand(GREAT, told, inputs), gives_by_hand(GREAT, wiring, inputs))
        self.assertEqual(told, ((11, 0),) * 11 + ((11, 1),))
        self.check_both(None, GREAT, wiring, plan_inputs(GREAT))

    def test_bad_wiring_ahead_of_bad_inputs(self):
        for wiring, output, reason in (
            ((), None, "length"),
            (((2, 0),), 0, "position"),
            (((1, 2),), 0, "change"),
            ((0,), 0, "constant"),
        ):
            wanted = {"output": output, "reason": reason}
            for inputs in ([], [(0, 0)], [(0, 0)] * 13, [(0,)], [(0, 4)]):
                self.check_error(BadWiring, wanted, confused_with, SWAPPED, wiring, inputs)
                self.check_error(BadWiring, wanted, checks, SWAPPED, wiring, inputs)

    def test_bad_inputs(self):
        for inputs, number, reason in (
            ([(0, 0)] * 13, None, "many"),
            ([(0, 0), (0,), (4, 4)], 1, "length"),
            ([(0, 0), (0, 4), ()], 1, "symbol"),
            ([(-1, 0)], 0, "symbol"),
        ):
            wanted = {"number": number, "reason": reason}
            self.check_error(BadInputs, wanted, confused_with, SWAPPED, ((0, 0),), inputs)
            self.check_error(BadInputs, wanted, checks, SWAPPED, ((0, 0),), inputs)
        wanted = {"number": 0, "reason": "length"}
        self.check_error(BadInputs, wanted, confused_with, NO_OUTPUTS, (), [(0,)])
        self.check_error(BadInputs, wanted, checks, ONE_SOURCE, ((0, 0),) * 3, [()])
