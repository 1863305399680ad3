"""Costs (part I): the cheapest inputs that determine every wiring, or that check one."""

from moveseen.checks import checks, inputs_that_check
from moveseen.costs import BadCosts, cheapest_inputs, cheapest_length, least_check_cost
from moveseen.counting import BadLength, capacity
from moveseen.families import BadWiring, Family
from moveseen.plans import determines, plan_inputs
from moveseen.rows import rows_of
from tests.helpers import (
    SMALL_FAMILIES,
    CallCase,
    all_inputs,
    all_wirings,
    check_by_hand,
    column_by_hand,
    determine_by_hand,
)

THREE = Family(2, 3, 1, [], [])
FOUR = Family(2, 4, 1, [], [])
SWAPPED = Family(4, 2, 1, [(1, 0, 2, 3)], [3])
FULL = Family(2, 2, 2, [(1, 0)], [0, 1])
NO_OUTPUTS = Family(3, 2, 0, [(1, 2, 0)], [0, 1, 2])
ONE_SOURCE = Family(2, 1, 3, [], [])
ONE_CONSTANT = Family(3, 0, 2, [], [1])
NO_SOURCE = Family(2, 0, 2, [], [])
CONSTANTS_ALONE = Family(2, 0, 2, [], [0, 1])
MOST = 10 ** 6
# The greatest length for each number of symbols: symbols ** length is at most 4096.
GREATEST = {2: 12, 3: 7, 4: 6, 5: 5, 6: 4, 7: 4, 8: 4}
MORE_FAMILIES = [
    Family(*parts)
    for parts in (
        (2, 3, 1, [(1, 0)], [0, 1]),
        (3, 2, 1, [(1, 0, 2)], [0, 1, 2]),
        (3, 2, 2, [(0, 2, 1)], []),
        (4, 2, 1, [(1, 0, 3, 2)], [0, 1]),
        (4, 2, 1, [(1, 0, 2, 3)], [0, 1, 2]),
        (4, 3, 1, [(1, 0, 3, 2), (2, 3, 0, 1)], []),
    )
]


def costs_for(symbols):
    """Costs that are alike, rising, falling, of nothing, of a million, and mixed."""
    yield (1,) * symbols
    yield (0,) * symbols
    yield tuple(range(symbols))
    yield tuple(range(symbols, 0, -1))
    yield (MOST, 0, *(1,) * (symbols - 2))
    yield (0, MOST, *(MOST,) * (symbols - 2))
    yield (7, 2, 2, 7, 3, 1, 1, 0)[:symbols]


def cost_of(inputs, costs):
    return sum(costs[symbol] for given in inputs for symbol in given)


class CheapestInputsTest(CallCase):
    def test_examples_of_the_document(self):
        self.check_call(((0, 0, 1), (0, 1, 0)), cheapest_inputs, THREE, 2, (0, 1))
        self.check_call(None, cheapest_inputs, THREE, 1, (0, 1))
        self.assertEqual(cost_of(cheapest_inputs(FOUR, 2, (0, 1)), (0, 1)), 4)
        self.assertEqual(set(rows_of(FOUR, cheapest_inputs(FOUR, 2, (0, 1)))), {(0, 0), (0, 1), (1, 0), (1, 1)})
        wanted = ((0, 0, 0, 1), (0, 0, 1, 0), (0, 1, 0, 0))
        self.check_call(wanted, cheapest_inputs, FOUR, 3, (0, 1))

    def test_length_0(self):
        self.check_call(None, cheapest_inputs, THREE, 0, (0, 1))
        self.check_call(None, cheapest_inputs, CONSTANTS_ALONE, 0, (0, 1))
        self.check_call(None, cheapest_inputs, FULL, 0, (0, 0))
        for family in (NO_OUTPUTS, ONE_SOURCE, ONE_CONSTANT, NO_SOURCE):
            self.check_call((), cheapest_inputs, family, 0, (1,) * family.symbols)

    def test_no_outputs_and_at_most_one_source(self):
        self.check_call(((1, 1), (1, 1)), cheapest_inputs, NO_OUTPUTS, 2, (5, 2, 2))
        self.check_call(((2, 2),), cheapest_inputs, NO_OUTPUTS, 1, (5, 2, 0))
        self.check_call(((0, 0),) * 7, cheapest_inputs, NO_OUTPUTS, 7, (MOST,) * 3)
        self.check_call(((1,),) * 3, cheapest_inputs, ONE_SOURCE, 3, (4, 0))
        self.check_call(((0,),) * 3, cheapest_inputs, ONE_SOURCE, 3, (4, 4))
        self.check_call(((),) * 3, cheapest_inputs, ONE_CONSTANT, 3, (4, 0, 1))
        self.check_call(((),) * 2, cheapest_inputs, NO_SOURCE, 2, (4, 0))

    def test_no_positions(self):
        for length in (1, 2, 12):
            self.check_call(((),) * length, cheapest_inputs, CONSTANTS_ALONE, length, (4, 0))

    def test_rows_need_not_be_first_in_their_orbits(self):
        # The orbit of (0, 1) has (1, 0), too, and with a cheap 1 the orbit of (0, 0) costs least by (1, 1).
        family = Family(2, 1, 1, [(1, 0)], [])
        self.check_call(((1,), (1,)), cheapest_inputs, family, 2, (5, 2))
        self.check_call(((0,), (0,)), cheapest_inputs, family, 2, (2, 2))
        self.check_call(((0,), (1,)), cheapest_inputs, Family(2, 1, 1, [(1, 0)], [0, 1]), 2, (5, 2))
        self.check_call(((1,),), cheapest_inputs, Family(4, 1, 1, [(1, 0, 2, 3)], [3]), 1, (2, 1, 0, 0))

    def test_costs_that_are_alike_take_the_first_rows(self):
        for family in SMALL_FAMILIES:
            inputs = plan_inputs(family)
            told = cheapest_inputs(family, len(inputs), (3,) * family.symbols)
            self.assertEqual(told, inputs)

    def test_a_symbol_that_costs_nothing(self):
        family = Family(2, 12, 1, [], [])
        for length in (4, 11, 12):
            told = cheapest_inputs(family, length, (0, MOST))
            ones = [row.count(1) for row in rows_of(family, told)]
            self.assertEqual(sorted(ones)[:min(length + 1, 12)], [0, *(1,) * min(length, 11)])
            self.assertIs(determines(family, told), True)
        units = tuple(tuple(int(11 - number == position) for position in range(12)) for number in range(11))
        self.check_call(units, cheapest_inputs, family, 11, (0, MOST))

    def test_the_greatest_length(self):
        for symbols, length in GREATEST.items():
            family = Family(symbols, 2, 1, [], [symbols - 1])
            costs = tuple(range(1, symbols + 1))
            wanted = [(0, 0)] * (length - 1) + [(0, 1)]
            self.check_call(tuple(wanted), cheapest_inputs, family, length, costs)
            if family.symbols > 2:
                self.assertEqual(cheapest_length(family, costs, length), (1, 3))
            wiring = ((0, 0),)
            self.check_call(2 * length + 1, least_check_cost, family, wiring, length, costs)

    def test_all_inputs_of_small_families(self):
        some, none = 0, 0
        for family in (*SMALL_FAMILIES, *MORE_FAMILIES):
            for length in range(4):
                rows = [inputs for inputs in all_inputs(family, length, 700) if determine_by_hand(family, inputs)]
                if not all_inputs(family, length, 700):
                    continue
                for costs in costs_for(family.symbols):
                    ranked = [(cost_of(inputs, costs), rows_of(family, inputs), inputs) for inputs in rows]
                    wanted = min(ranked)[2] if ranked else None
                    self.assertEqual(cheapest_inputs(family, length, costs), wanted)
                    some += wanted is not None
                    none += wanted is None
        self.assertGreater(min(some, none), 100)

    def test_none_exactly_if_the_capacity_is_not_enough(self):
        for family in (*SMALL_FAMILIES, *MORE_FAMILIES):
            if family.outputs and len(family.sources) > 1:
                for length in range(5):
                    enough = capacity(family.changes, family.constants, length) >= family.positions
                    told = cheapest_inputs(family, length, (1,) * family.symbols)
                    self.assertEqual(told is not None, length >= 1 and enough)


class CheapestLengthTest(CallCase):
    def test_examples_of_the_document(self):
        self.check_call((2, 2), cheapest_length, THREE, (0, 1), 5)
        self.check_call((3, 3), cheapest_length, FOUR, (0, 1), 5)
        self.check_call((2, 4), cheapest_length, FOUR, (0, 1), 2)

    def test_none(self):
        self.check_call(None, cheapest_length, THREE, (0, 1), 0)
        self.check_call(None, cheapest_length, THREE, (0, 1), 1)
        self.check_call(None, cheapest_length, CONSTANTS_ALONE, (0, 1), 0)
        self.check_call(None, cheapest_length, FULL, (0, 0), 2)

    def test_no_outputs_and_at_most_one_source(self):
        for family in (NO_OUTPUTS, ONE_SOURCE, ONE_CONSTANT, NO_SOURCE):
            for most in (0, 1, 5):
                self.check_call((0, 0), cheapest_length, family, (7,) * family.symbols, most)

    def test_no_positions(self):
        self.check_call((1, 0), cheapest_length, CONSTANTS_ALONE, (9, 9), 12)

    def test_the_shortest_of_several(self):
        self.check_call((2, 0), cheapest_length, THREE, (0, 0), 12)
        self.check_call((2, 2), cheapest_length, THREE, (0, 1), 12)
        self.check_call((3, 3 * MOST), cheapest_length, FOUR, (MOST, 0), 12)

    def test_more_inputs_can_cost_less(self):
        family = Family(2, 12, 1, [], [])
        told = [cheapest_length(family, (0, 1), most) for most in range(4, 13)]
        self.assertEqual(told, sorted(told))
        self.check_call((11, 11), cheapest_length, family, (0, 1), 12)
        self.check_call((10, 12), cheapest_length, family, (0, 1), 10)
        self.check_call((4, 4 * 12 * MOST), cheapest_length, family, (MOST, MOST), 12)

    def test_against_cheapest_inputs(self):
        for family in (*SMALL_FAMILIES, *MORE_FAMILIES):
            for costs in costs_for(family.symbols):
                for most in (0, 1, 2, 4):
                    told = []
                    for length in range(most + 1):
                        inputs = cheapest_inputs(family, length, costs)
                        if inputs is not None:
                            told.append((cost_of(inputs, costs), length))
                    wanted = min(told)[::-1] if told else None
                    self.check_call(wanted, cheapest_length, family, costs, most)


class CheckCostTest(CallCase):
    def test_example_of_the_document(self):
        self.check_call(1, least_check_cost, THREE, ((2, 0),), 1, (0, 1))

    def test_length_0(self):
        for family, wiring in ((THREE, ((0, 0),)), (FULL, (0, 1)), (CONSTANTS_ALONE, (0, 0))):
            self.check_call(None, least_check_cost, family, wiring, 0, (1, 2))
        self.check_call(0, least_check_cost, NO_OUTPUTS, (), 0, (1, 2, 3))
        self.check_call(0, least_check_cost, ONE_SOURCE, ((0, 0),) * 3, 0, (1, 2))

    def test_no_outputs_and_at_most_one_source(self):
        self.check_call(12, least_check_cost, NO_OUTPUTS, (), 3, (5, 2, 3))
        self.check_call(14 * MOST, least_check_cost, NO_OUTPUTS, (), 7, (MOST,) * 3)
        self.check_call(8, least_check_cost, ONE_SOURCE, ((0, 0),) * 3, 4, (2, 3))
        self.check_call(0, least_check_cost, ONE_CONSTANT, (1, 1), 4, (2, 3, 4))

    def test_no_positions(self):
        self.check_call(0, least_check_cost, CONSTANTS_ALONE, (0, 1), 1, (5, 5))
        self.check_call(0, least_check_cost, CONSTANTS_ALONE, (1, 1), 12, (5, 5))

    def test_all_positions_used(self):
        family = Family(2, 2, 2, [(1, 0)], [0, 1])
        self.check_call(None, least_check_cost, family, ((0, 0), (1, 0)), 2, (3, 5))
        self.check_call(22, least_check_cost, family, ((0, 0), (1, 0)), 3, (3, 5))

    def test_the_others_have_the_cheapest_orbit(self):
        # With many others it is better to give them 00 and the one in use 01 than the other way round.
        family = Family(2, 12, 1, [], [])
        self.check_call(1, least_check_cost, family, ((5, 0),), 1, (0, 1))
        self.check_call(1, least_check_cost, family, ((5, 0),), 2, (0, 1))
        self.check_call(23 * 2 + 7, least_check_cost, family, ((5, 0),), 2, (2, 7))

    def test_the_others_share_an_orbit_that_is_not_usable(self):
        # 2 alone is left where it is by the change, and costs nothing.
        family = Family(3, 5, 1, [(1, 0, 2)], [])
        self.check_call(4, least_check_cost, family, ((3, 1),), 1, (4, 6, 0))
        self.check_call(4 + 0, least_check_cost, family, ((3, 1),), 2, (4, 6, 0))
        # A constant that is not used may be what they all look like.
        family = Family(2, 5, 1, [], [0, 1])
        self.check_call(1, least_check_cost, family, ((3, 0),), 2, (0, 1))
        self.check_call(0, least_check_cost, family, (1,), 2, (0, 1))
        self.check_call(5, least_check_cost, family, (0,), 2, (0, 1))

    def test_none(self):
        self.check_call(None, least_check_cost, FULL, ((0, 0), (1, 0)), 1, (0, 1))
        self.check_call(None, least_check_cost, FULL, (0, 1), 1, (0, 1))
        family = Family(2, 3, 2, [], [])
        self.check_call(None, least_check_cost, family, ((0, 0), (1, 0)), 1, (0, 1))
        self.check_call(2, least_check_cost, family, ((0, 0), (1, 0)), 2, (0, 1))

    def test_all_inputs_of_small_families(self):
        some, none = 0, 0
        for family in (*SMALL_FAMILIES, *MORE_FAMILIES):
            wirings = all_wirings(family)[::2]
            for length in range(4):
                rows = all_inputs(family, length, 700)
                costs_told = {}
                for inputs in rows:
                    columns = [column_by_hand(family, inputs, source) for source in family.sources]
                    lone = {source for source, column in zip(family.sources, columns) if columns.count(column) == 1}
                    for wiring in wirings:
                        if lone.issuperset(wiring):
                            costs_told.setdefault(wiring, []).append(inputs)
                for wiring in wirings if rows else []:
                    for costs in costs_for(family.symbols):
                        told = [cost_of(inputs, costs) for inputs in costs_told.get(wiring, [])]
                        wanted = min(told, default=None)
                        self.assertEqual(least_check_cost(family, wiring, length, costs), wanted)
                        some += wanted is not None
                        none += wanted is None
        self.assertGreater(min(some, none), 100)

    def test_there_are_some_exactly_from_the_inputs_that_check_on(self):
        for family in SMALL_FAMILIES:
            for wiring in all_wirings(family)[::3]:
                fewest = len(inputs_that_check(family, wiring))
                costs = (2,) * family.symbols
                for length in range(5):
                    told = least_check_cost(family, wiring, length, costs)
                    wanted = 2 * length * family.positions if length >= fewest else None
                    self.assertEqual(told, wanted)

    def test_no_cheaper_than_any_that_check(self):
        family = Family(3, 3, 1, [], [2])
        inputs = [(0, 1, 0), (1, 0, 2)]
        for wiring in all_wirings(family):
            if checks(family, wiring, inputs):
                self.assertTrue(check_by_hand(family, wiring, inputs))
                self.assertLessEqual(least_check_cost(family, wiring, 2, (5, 1, 3)), cost_of(inputs, (5, 1, 3)))


class WrongArgumentsTest(CallCase):
    WRONG_COSTS = (
        (None, ()),
        (None, (1,)),
        (None, (1, 2, 3)),
        (None, (-1, 2, MOST + 1)),
        (0, (-1, 0)),
        (0, (MOST + 1, -1)),
        (1, (0, -5)),
        (1, (MOST, MOST + 1)),
    )

    def test_bad_length_ahead_of_bad_costs(self):
        for symbols, greatest in GREATEST.items():
            family = Family(symbols, 1, 1, [], [0])
            for costs in ((1,) * symbols, (), (-1,) * symbols):
                for length in (-1, greatest + 1, greatest + 2, 300, 10 ** 60):
                    self.check_error(BadLength, {}, cheapest_inputs, family, length, costs)
                    self.check_error(BadLength, {}, least_check_cost, family, ((0, 0),), length, costs)

    def test_bad_length_of_families_without_a_choice(self):
        for family in (NO_OUTPUTS, ONE_SOURCE, ONE_CONSTANT, NO_SOURCE):
            costs = (1,) * family.symbols
            for length in (-1, GREATEST[family.symbols] + 1):
                self.check_error(BadLength, {}, cheapest_inputs, family, length, costs)
                self.check_error(BadLength, {}, cheapest_length, family, costs, length)
        self.check_error(BadLength, {}, least_check_cost, NO_OUTPUTS, (), 8, (1, 1, 1))

    def test_bad_costs(self):
        for number, costs in self.WRONG_COSTS:
            wanted = {"number": number}
            for length in (0, 1, 12):
                self.check_error(BadCosts, wanted, cheapest_inputs, THREE, length, costs)
                self.check_error(BadCosts, wanted, least_check_cost, THREE, ((0, 0),), length, costs)
                self.check_error(BadCosts, wanted, cheapest_inputs, ONE_SOURCE, length, costs)

    def test_bad_costs_ahead_of_bad_length(self):
        for number, costs in self.WRONG_COSTS:
            for most in (-1, 0, 5, 13, 10 ** 60):
                self.check_error(BadCosts, {"number": number}, cheapest_length, THREE, costs, most)
                self.check_error(BadCosts, {"number": number}, cheapest_length, NO_SOURCE, costs, most)
        for most in (-1, 13, 10 ** 60):
            self.check_error(BadLength, {}, cheapest_length, THREE, (0, 1), most)

    def test_bad_wiring_ahead_of_both(self):
        for wiring, output, reason in (
            ((), None, "length"),
            (((0, 0), 3), None, "length"),
            (((2, 9),), 0, "position"),
            (((0, 2),), 0, "change"),
            ((0,), 0, "constant"),
        ):
            wanted = {"output": output, "reason": reason}
            for length in (-1, 0, 2, 7):
                for costs in ((1,) * 4, (), (-1,) * 4):
                    self.check_error(BadWiring, wanted, least_check_cost, SWAPPED, wiring, length, costs)
        self.check_error(BadWiring, {"output": None}, least_check_cost, NO_OUTPUTS, (0,), -1, ())
