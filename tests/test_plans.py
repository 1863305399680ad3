"""Plans (part E): the fewest inputs that determine every wiring, and pairs that are confused."""

from itertools import combinations

from moveseen.counting import capacity
from moveseen.families import BadInputs, Family
from moveseen.plans import determines, find_confusion, plan_inputs
from moveseen.rows import rows_of, same_column
from tests.helpers import (
    GROUPS,
    SMALL_FAMILIES,
    CallCase,
    all_inputs,
    closed_constants,
    column_by_hand,
    determine_by_hand,
    usable_by_hand,
)

TURNED = Family(3, 2, 1, [(1, 2, 0)], [])
FILLED = Family(3, 2, 1, [(1, 2, 0)], [0, 1, 2])
PLAIN = Family(2, 3, 2, [], [])
GREAT = Family(4, 12, 12, [(1, 0, 2, 3), (1, 2, 3, 0)], [0, 1, 2, 3])
NO_OUTPUTS = Family(3, 2, 0, [(1, 2, 0)], [0, 1, 2])
ONE_SOURCE = Family(2, 1, 3, [], [])
ONE_CONSTANT = Family(3, 0, 2, [], [1])
NO_SOURCE = Family(2, 0, 2, [], [])
CONSTANTS_ALONE = Family(2, 0, 2, [], [0, 1])


class PlanTest(CallCase):
    def test_examples_of_the_document(self):
        self.check_call(((0, 0), (0, 1)), plan_inputs, TURNED)
        self.check_call(((0, 0), (1, 2)), plan_inputs, FILLED)
        self.check_call(((0, 1),), plan_inputs, Family(3, 2, 2, (), ()))

    def test_no_outputs_and_at_most_one_source(self):
        for family in (NO_OUTPUTS, ONE_SOURCE, ONE_CONSTANT, NO_SOURCE):
            self.check_call((), plan_inputs, family)
        self.check_call((), plan_inputs, Family(4, 12, 0, [(1, 0, 2, 3), (1, 2, 3, 0)], []))
        # Two sources are not one, be they of one position, of two, or of a position and a constant.
        self.check_call(((0,),), plan_inputs, Family(2, 1, 1, [(1, 0)], []))
        self.check_call(((0, 1),), plan_inputs, Family(2, 2, 1, [], []))
        self.check_call(((0,),), plan_inputs, Family(2, 1, 1, [], [1]))

    def test_no_positions_with_several_constants(self):
        self.check_call(((),), plan_inputs, CONSTANTS_ALONE)
        self.check_call(((),), plan_inputs, Family(3, 0, 1, [(1, 2, 0)], [0, 1, 2]))
        self.check_call(((),), plan_inputs, Family(8, 0, 12, [], [0, 7]))

    def test_twelve_positions(self):
        inputs = tuple(zip(*usable_by_hand(GREAT.changes, GREAT.constants, 5)[:12]))
        self.check_call(inputs, plan_inputs, GREAT)
        self.assertEqual(inputs[0], (0,) * 12)
        wanted = tuple(zip(*[(a, b, c, d) for a in (0, 1) for b in (0, 1) for c in (0, 1) for d in (0, 1)][:12]))
        self.check_call(wanted, plan_inputs, Family(2, 12, 12, [], []))

    def test_positions_look_like_no_constant(self):
        self.check_call(((0, 0), (0, 1)), plan_inputs, Family(2, 2, 1, [], [1]))
        self.check_call(((0, 1), (1, 0)), plan_inputs, Family(2, 2, 1, [], [0, 1]))
        self.check_call(((2,),), plan_inputs, Family(4, 1, 1, [(1, 0, 3, 2)], [0, 1]))
        for family in SMALL_FAMILIES:
            inputs = plan_inputs(family)
            if inputs:
                for constant in family.constants:
                    self.assertEqual(same_column(family, inputs, constant), (constant,))

    def test_least_length_and_first_usable_rows(self):
        for changes in GROUPS[:12]:
            for constants in closed_constants(changes):
                for positions in (1, 2, 3, 5):
                    family = Family(len(changes[0]), positions, 1, changes[1:4], constants)
                    if family.changes != changes or len(family.sources) <= 1:
                        continue
                    length = 1
                    while len(usable_by_hand(changes, constants, length)) < positions:
                        length += 1
                    inputs = plan_inputs(family)
                    rows = tuple(usable_by_hand(changes, constants, length)[:positions])
                    self.assertEqual(len(inputs), length)
                    self.assertEqual(rows_of(family, inputs), rows)

    def test_the_plan_determines_every_wiring(self):
        for family in (*SMALL_FAMILIES, GREAT, TURNED, FILLED):
            self.assertIs(determines(family, plan_inputs(family)), True)
        for family in SMALL_FAMILIES:
            self.assertTrue(determine_by_hand(family, plan_inputs(family)))

    def test_no_fewer_inputs_determine_every_wiring(self):
        tried = 0
        for family in SMALL_FAMILIES:
            for many in range(len(plan_inputs(family))):
                for inputs in all_inputs(family, many):
                    self.assertFalse(determine_by_hand(family, inputs))
                    tried += 1
        self.assertGreater(tried, 1000)

    def test_some_inputs_do_exactly_if_the_capacity_is_enough(self):
        for family in SMALL_FAMILIES:
            if family.outputs == 0 or len(family.sources) < 2:
                continue
            for many in range(4):
                rows = all_inputs(family, many, 300)
                if rows:
                    enough = capacity(family.changes, family.constants, many) >= family.positions
                    some = any(determine_by_hand(family, inputs) for inputs in rows)
                    self.assertEqual(some, many >= 1 and enough)


class ConfusionTest(CallCase):
    def check_both(self, wanted, family, inputs):
        self.check_call(wanted, find_confusion, family, inputs)
        self.check_call(wanted is None, determines, family, inputs)

    def test_example_of_the_document(self):
        self.check_both((((0, 0),), ((1, 0),)), TURNED, [(0, 0)])

    def test_no_outputs_and_at_most_one_source(self):
        for family in (NO_OUTPUTS, ONE_SOURCE, ONE_CONSTANT, NO_SOURCE):
            self.check_both(None, family, [])
            self.check_both(None, family, [(1,) * family.positions])
            self.check_both(None, family, [(0,) * family.positions] * 12)

    def test_no_inputs(self):
        self.check_both((((0, 0),), ((0, 1),)), TURNED, [])
        self.check_both((((0, 0), (0, 0)), ((1, 0), (1, 0))), PLAIN, [])
        self.check_both(((0, 0), (1, 1)), CONSTANTS_ALONE, [])
        self.check_both((((0, 0),), (1,)), Family(2, 1, 1, [], [1]), [])

    def test_no_positions(self):
        self.check_both(None, CONSTANTS_ALONE, [()])
        self.check_both(None, CONSTANTS_ALONE, [()] * 12)

    def test_all_columns_different(self):
        self.check_both(None, TURNED, [(0, 0), (0, 1)])
        self.check_both(None, TURNED, [(2, 1), (0, 0), (2, 1)])
        self.check_both(None, FILLED, [(0, 0), (1, 2)])
        self.check_both(None, PLAIN, [(0, 1, 0), (1, 0, 0)])

    def test_each_wiring_of_the_pair_has_one_source_at_every_output(self):
        family = Family(2, 3, 12, [], [])
        self.check_both((((1, 0),) * 12, ((2, 0),) * 12), family, [(0, 1, 1)])

    def test_the_first_pair_of_several(self):
        # By the first source, and only then by the second one.
        family = Family(2, 4, 1, [], [])
        self.check_both((((0, 0),), ((3, 0),)), family, [(0, 1, 1, 0)])
        self.check_both((((0, 0),), ((1, 0),)), family, [(0, 0, 1, 0), (1, 1, 0, 1)])
        self.check_both((((1, 0),), ((3, 0),)), family, [(0, 1, 1, 1), (0, 0, 1, 0)])
        family = Family(3, 2, 1, [(1, 0, 2)], [2])
        self.check_both((((1, 0),), ((1, 1),)), family, [(0, 2)])
        self.check_both((((0, 0),), ((1, 1),)), family, [(0, 1)])
        self.check_both((((0, 0),), ((0, 1),)), family, [(2, 2)])
        self.check_both((((1, 0),), (2,)), Family(3, 2, 1, [], [2]), [(0, 2)])

    def test_all_inputs_of_small_families(self):
        for family in SMALL_FAMILIES:
            for many in range(3):
                for inputs in all_inputs(family, many, 300):
                    columns = {source: column_by_hand(family, inputs, source) for source in family.sources}
                    pairs = [pair for pair in combinations(family.sources, 2) if columns[pair[0]] == columns[pair[1]]]
                    wanted = None
                    if pairs and family.outputs:
                        wanted = tuple((source,) * family.outputs for source in pairs[0])
                    self.assertEqual(find_confusion(family, inputs), wanted)
                    self.assertIs(determines(family, inputs), determine_by_hand(family, inputs))

    def test_more_inputs_and_other_orders_do_so_too(self):
        inputs = [(0, 0), (2, 2), (1, 1), (0, 1)]
        self.check_both(None, TURNED, inputs)
        self.check_both(None, TURNED, inputs[::-1])
        self.check_both(None, TURNED, inputs * 3)
        self.check_both((((0, 0),), ((1, 0),)), TURNED, inputs[:3] * 4)

    def test_bad_inputs(self):
        for inputs, number, reason in (
            ([(0, 0)] * 13, None, "many"),
            ([(9,)] * 13, None, "many"),
            ([(0, 0), (0,), (4, 4)], 1, "length"),
            ([(0, 0, 3)], 0, "length"),
            ([(0, 0), (0, 3), ()], 1, "symbol"),
            ([(-1, 0)], 0, "symbol"),
        ):
            wanted = {"number": number, "reason": reason}
            for family in (TURNED, FILLED, NO_OUTPUTS):
                self.check_error(BadInputs, wanted, find_confusion, family, inputs)
                self.check_error(BadInputs, wanted, determines, family, inputs)
        wanted = {"number": 1, "reason": "length"}
        for family in (NO_SOURCE, ONE_CONSTANT):
            self.check_error(BadInputs, wanted, find_confusion, family, [(), (0,)])
            self.check_error(BadInputs, wanted, determines, family, [(), (0,)])
