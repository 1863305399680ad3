"""Redundant and kept inputs ([H2], [H3])."""

import random
from itertools import combinations, product

from moveseen.families import BadInputs, Family
from moveseen.redundancy import kept_inputs, redundant_inputs
from tests.helpers import SMALL_FAMILIES, CallCase, all_inputs, all_wirings, column_by_hand, gives_by_hand

EXAMPLE = Family(2, 2, 1, [], [])
SWAPPED = Family(4, 2, 1, [(1, 0, 2, 3)], [])
TWELVE = Family(2, 12, 1, [], [0])
GREAT = Family(4, 12, 12, [(1, 0, 2, 3), (1, 2, 3, 0)], [0, 1, 2, 3])
NO_OUTPUTS = Family(3, 2, 0, [(1, 2, 0)], [0, 1, 2])
UNITS = [tuple(int(position == number) for position in range(12)) for number in range(12)]


def taken(inputs, numbers):
    return [inputs[number] for number in numbers]


def are_enough(family, inputs, numbers):
    """True if wirings that give the same for some of the inputs do so for all, as the document tells it."""
    few = {}
    for wiring in all_wirings(family):
        few.setdefault(gives_by_hand(family, wiring, taken(inputs, numbers)), []).append(wiring)
    return all(len({gives_by_hand(family, wiring, inputs) for wiring in same}) == 1 for same in few.values())


def redundant_by_hand(family, inputs):
    numbers = range(len(inputs))
    return tuple(k for k in numbers if are_enough(family, inputs, [other for other in numbers if other != k]))


def kept_by_hand(family, inputs):
    for many in range(len(inputs) + 1):
        for numbers in combinations(range(len(inputs)), many):
            if are_enough(family, inputs, numbers):
                return numbers


class RedundancyTest(CallCase):
    def check_both(self, redundant, kept, family, inputs):
        self.check_call(redundant, redundant_inputs, family, inputs)
        self.check_call(kept, kept_inputs, family, inputs)

    def test_examples_of_the_document(self):
        self.check_both((0, 1), (0,), EXAMPLE, [(0, 1), (0, 1)])
        self.check_both((1,), (0,), EXAMPLE, [(0, 1), (0, 0)])
        self.check_both((0, 1, 2), (0, 1), SWAPPED, [(0, 2), (0, 0), (0, 1)])

    def test_no_inputs(self):
        for family in SMALL_FAMILIES:
            self.check_both((), (), family, [])

    def test_no_outputs(self):
        for many in (1, 2, 5, 12):
            inputs = [(number % 3, 1) for number in range(many)]
            self.check_both(tuple(range(many)), (), NO_OUTPUTS, inputs)

    def test_at_most_one_source(self):
        for family in (Family(2, 1, 2, [], []), Family(2, 0, 2, [], [1]), Family(2, 0, 2, [], [])):
            inputs = [(0,) * family.positions, (1,) * family.positions]
            self.check_both((0, 1), (), family, inputs)

    def test_inputs_that_tell_nothing(self):
        self.check_both((0, 1, 2), (), EXAMPLE, [(0, 0), (1, 1), (0, 0)])
        self.check_both((0, 2, 3), (1,), EXAMPLE, [(0, 0), (1, 0), (0, 0), (1, 1)])

    def test_the_same_input_twice(self):
        self.check_both((0, 1, 3), (0, 2), SWAPPED, [(0, 2), (0, 2), (0, 0), (0, 2)])
        self.check_both((1, 2), (0, 1), SWAPPED, [(0, 0), (0, 2), (0, 2)])
        # Turned round, an input tells the same.
        self.check_both((0, 1), (0,), EXAMPLE, [(0, 1), (1, 0)])

    def test_the_first_of_several_smallest_sets(self):
        family = Family(2, 4, 1, [], [])
        inputs = [(0, 0, 1, 1), (1, 1, 0, 0), (0, 1, 0, 1), (0, 1, 1, 0)]
        self.check_both((0, 1, 2, 3), (0, 2), family, inputs)
        self.check_both((0, 1, 2, 3), (0, 1), family, inputs[::-1])
        # Numbers are compared one by one: 0 and 3 come ahead of 1 and 2.
        inputs = [(0, 0, 1, 1), (0, 0, 0, 1), (0, 1, 1, 1), (0, 1, 0, 1)]
        self.check_both((0, 1, 2, 3), (0, 3), family, inputs)

    def test_no_input_is_redundant(self):
        inputs = [(0, 0, 1), (0, 1, 0)]
        self.check_both((), (0, 1), Family(2, 3, 2, [], []), inputs)

    def test_those_that_are_not_redundant_are_kept(self):
        family = Family(2, 4, 1, [], [])
        self.check_both((0, 1), (0, 2), family, [(0, 0, 1, 1), (1, 1, 0, 0), (0, 1, 0, 1)])
        self.check_both((1, 2), (0, 1), family, [(0, 1, 0, 1), (1, 1, 0, 0), (0, 0, 1, 1)])

    def test_twelve_inputs(self):
        self.check_both((), tuple(range(12)), TWELVE, UNITS)
        # Without the constant the position with 0 everywhere is told apart by all others.
        family = Family(2, 12, 1, [], [])
        self.check_both(tuple(range(12)), tuple(range(11)), family, UNITS)
        self.check_both(tuple(range(12)), (0,), family, UNITS[:1] * 12)
        self.check_both(tuple(range(12)), (0, 1), Family(2, 3, 1, [], []), [(0, 0, 1), (0, 1, 0), (1, 0, 0)] * 4)

    def test_twelve_inputs_of_the_greatest_family(self):
        chosen = random.Random(5)
        for symbols in ((0, 1, 2, 3), (0, 0, 0, 0, 0, 1), (0, 0, 0, 1, 2)):
            inputs = [tuple(chosen.choice(symbols) for _ in range(12)) for _ in range(12)]
            columns = {column_by_hand(GREAT, inputs, source) for source in GREAT.sources}

            def enough(numbers):
                return len({tuple(column[number] for number in numbers) for column in columns}) == len(columns)

            redundant = tuple(k for k in range(12) if enough([other for other in range(12) if other != k]))
            sets = (numbers for many in range(13) for numbers in combinations(range(12), many))
            self.assertEqual(redundant_inputs(GREAT, inputs), redundant)
            self.assertEqual(kept_inputs(GREAT, inputs), next(numbers for numbers in sets if enough(numbers)))

    def test_all_sets_of_small_families(self):
        chosen = random.Random(8)
        for family in SMALL_FAMILIES:
            every = list(product(range(family.symbols), repeat=family.positions))
            rows = [*all_inputs(family, 1, 16), *all_inputs(family, 2, 16)]
            rows += [tuple(chosen.choice(every) for _ in range(many)) for many in (2, 3, 3, 4, 5)]
            for inputs in rows:
                self.assertEqual(redundant_inputs(family, inputs), redundant_by_hand(family, inputs))
                self.assertEqual(kept_inputs(family, inputs), kept_by_hand(family, inputs))

    def test_bad_inputs(self):
        for inputs, number, reason in (
            ([(0, 0)] * 13, None, "many"),
            ([(9,)] * 13, None, "many"),
            ([(0, 0), (0,), (4, 4)], 1, "length"),
            ([(0, 0), (0, 4), ()], 1, "symbol"),
            ([(-1, 0)], 0, "symbol"),
        ):
            wanted = {"number": number, "reason": reason}
            for family in (SWAPPED, NO_OUTPUTS):
                self.check_error(BadInputs, wanted, redundant_inputs, family, inputs)
                self.check_error(BadInputs, wanted, kept_inputs, family, inputs)
