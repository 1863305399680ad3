"""What outputs show, and the checks of wirings, inputs and outputs (part B)."""

import unittest
from itertools import product

from moveseen.changes import all_changes
from moveseen.families import (
    BadInputs,
    BadOutputs,
    BadWiring,
    Family,
    NoSource,
    settled_inputs,
    settled_outputs,
    settled_wiring,
    shown,
)
from tests.helpers import CallCase

EXAMPLE = Family(4, 3, 3, [(1, 0, 3, 2)], [2, 3])
TURNED = Family(3, 2, 1, [(1, 2, 0)], [0, 1, 2])
SWAPPED = Family(4, 2, 3, [(1, 0, 2, 3)], [3])
BARE = Family(2, 0, 0, [], [])
GREAT = Family(4, 12, 12, [(1, 0, 2, 3), (1, 2, 3, 0)], [0, 1, 2, 3])


class ShownTest(CallCase):
    def test_example_of_the_document(self):
        for output, source in enumerate(((1, 1), (2, 0), 3)):
            self.check_call((0, 2, 3)[output], shown, EXAMPLE, source, (0, 1, 2))

    def test_positions_with_changes(self):
        self.assertEqual(TURNED.changes, ((0, 1, 2), (1, 2, 0), (2, 0, 1)))
        for symbol in range(3):
            for number in range(3):
                wanted = (symbol + number) % 3
                self.check_call(wanted, shown, TURNED, (0, number), (symbol, 0))
                self.check_call(wanted, shown, TURNED, (1, number), (0, symbol))

    def test_constants(self):
        for given in product(range(3), repeat=2):
            for constant in range(3):
                self.check_call(constant, shown, TURNED, constant, given)
        self.check_call(1, shown, Family(2, 0, 1, [], [1]), 1, ())

    def test_each_source_for_each_input(self):
        for family in (EXAMPLE, TURNED, SWAPPED):
            for given in product(range(family.symbols), repeat=family.positions):
                for position in range(family.positions):
                    for number, change in enumerate(family.changes):
                        told = shown(family, (position, number), given)
                        self.assertEqual(told, change[given[position]])
                for constant in family.constants:
                    self.assertEqual(shown(family, constant, given), constant)

    def test_different_sources_differ_for_some_input(self):
        for family in (EXAMPLE, TURNED, SWAPPED):
            inputs = list(product(range(family.symbols), repeat=family.positions))
            told = {tuple(shown(family, source, given) for given in inputs) for source in family.sources}
            self.assertEqual(len(told), len(family.sources))

    def test_the_greatest_family(self):
        given = (0, 1, 2, 3, 3, 2, 1, 0, 2, 0, 3, 1)
        changes = all_changes(4, GREAT.given)
        for source in GREAT.sources[:-4]:
            wanted = changes[source[1]][given[source[0]]]
            self.assertEqual(shown(GREAT, source, given), wanted)

    def test_no_source(self):
        for source in ((-1, 0), (2, 0), (0, -1), (1, 3), -1, 3):
            self.check_error(NoSource, {}, shown, TURNED, source, (0, 0))
        self.check_error(NoSource, {}, shown, SWAPPED, 0, (0, 0))
        self.check_error(NoSource, {}, shown, BARE, (0, 0), ())

    def test_bad_inputs(self):
        for source in ((0, 0), (1, 2), 1):
            for given in ((), (0,), (0, 0, 0), (7, 7, 7)):
                wanted = {"number": 0, "reason": "length"}
                self.check_error(BadInputs, wanted, shown, TURNED, source, given)
            for given in ((-1, 0), (0, -1), (3, 0), (0, 3), (-3, 0)):
                wanted = {"number": 0, "reason": "symbol"}
                self.check_error(BadInputs, wanted, shown, TURNED, source, given)

    def test_no_source_ahead_of_bad_inputs(self):
        for source in ((-1, 0), (2, 0), (0, 3), 3, -1):
            for given in ((), (0,), (0, 0, 0), (0, 3), (-1, 0)):
                self.check_error(NoSource, {}, shown, TURNED, source, given)


class WiringTest(CallCase):
    def check_bad(self, output, reason, family, wiring):
        wanted = {"output": output, "reason": reason}
        self.check_error(BadWiring, wanted, settled_wiring, family, wiring)

    def test_example_of_the_document(self):
        for wiring in (((1, 1), (2, 0), 3), ((1, 1), (2, 0), (0, 0)), (2, 3, 3), ((2, 1), 3, 3)):
            self.check_call(wiring, settled_wiring, EXAMPLE, wiring)

    def test_all_wirings_of_a_family(self):
        for wiring in product(SWAPPED.sources, repeat=3):
            self.assertEqual(settled_wiring(SWAPPED, wiring), wiring)

    def test_no_outputs_and_most_outputs(self):
        self.check_call((), settled_wiring, BARE, ())
        for sources in (GREAT.sources[:12], GREAT.sources[-12:], ((11, 23),) * 12):
            self.check_call(sources, settled_wiring, GREAT, sources)

    def test_length(self):
        for wiring in ((), ((0, 0),), ((0, 0), 3), ((0, 0), (0, 0), 3, 3)):
            self.check_bad(None, "length", SWAPPED, wiring)
        self.check_bad(None, "length", BARE, ((0, 0),))
        self.check_bad(None, "length", BARE, (0,))

    def test_length_ahead_of_all_else(self):
        for wrong in (0, (2, 0), (0, 2)):
            self.check_bad(None, "length", SWAPPED, (wrong, wrong))
            self.check_bad(None, "length", SWAPPED, (wrong, 3, 3, 3))

    def test_each_reason_at_each_output(self):
        wrong = {
            "constant": (-1, 0, 1, 2, 4, 99),
            "position": ((-1, 0), (2, 0), (3, 1), (-2, 1)),
            "change": ((0, -1), (0, 2), (1, 2), (1, 3), (1, -2)),
        }
        for reason, sources in wrong.items():
            for source in sources:
                for output in range(3):
                    wiring = [(0, 0), (1, 1), 3]
                    wiring[output] = source
                    self.check_bad(output, reason, SWAPPED, wiring)

    def test_position_ahead_of_change(self):
        for source in ((-1, -1), (2, 2), (-1, 2), (2, -1)):
            self.check_bad(0, "position", SWAPPED, (source, 3, 3))

    def test_the_first_wrong_one(self):
        wrong = {"constant": 0, "position": (2, 0), "change": (0, 2)}
        for reason, source in wrong.items():
            for other in wrong.values():
                self.check_bad(0, reason, SWAPPED, (source, other, other))
                self.check_bad(0, reason, SWAPPED, (source, 3, other))
                self.check_bad(1, reason, SWAPPED, ((0, 0), source, other))
        self.check_bad(11, "change", GREAT, ((0, 0),) * 11 + ((11, 24),))

    def test_what_was_passed_may_be_changed_afterwards(self):
        wiring = [[0, 0], [1, 1], 3]
        told = settled_wiring(SWAPPED, wiring)
        wiring[0][0] = 1
        wiring.pop()
        self.assertEqual(told, ((0, 0), (1, 1), 3))


class InputsTest(CallCase):
    def check_bad(self, number, reason, family, inputs):
        wanted = {"number": number, "reason": reason}
        self.check_error(BadInputs, wanted, settled_inputs, family, inputs)

    def test_settled(self):
        for inputs in ((), ((0, 1),), ((3, 0), (3, 0), (1, 2))):
            self.check_call(inputs, settled_inputs, SWAPPED, inputs)
        every = tuple(product(range(3), repeat=2))
        self.check_call(every, settled_inputs, TURNED, every)

    def test_no_positions(self):
        self.check_call(((), ()), settled_inputs, BARE, ((), ()))
        self.check_call((), settled_inputs, BARE, ())
        self.check_bad(0, "length", BARE, ((0,),))

    def test_at_most_12(self):
        self.check_call(((1, 2),) * 12, settled_inputs, SWAPPED, ((1, 2),) * 12)
        self.check_call(((3,) * 12,) * 12, settled_inputs, GREAT, ((3,) * 12,) * 12)
        self.check_bad(None, "many", SWAPPED, ((1, 2),) * 13)
        self.check_bad(None, "many", SWAPPED, ((1, 2),) * 14)
        self.check_bad(None, "many", BARE, ((),) * 13)

    def test_many_ahead_of_all_else(self):
        for wrong in ((), (0,), (0, 4), (-1, 0), (4, 4, 4)):
            self.check_bad(None, "many", SWAPPED, (wrong,) * 13)
            self.check_bad(None, "many", SWAPPED, (wrong, *((0, 0),) * 12))

    def test_length(self):
        for wrong in ((), (0,), (0, 0, 0)):
            for number in range(3):
                inputs = [(0, 1), (1, 2), (2, 3)]
                inputs[number] = wrong
                self.check_bad(number, "length", SWAPPED, inputs)

    def test_symbol(self):
        for wrong in ((-1, 0), (0, -1), (4, 0), (0, 4), (-4, 0), (99, 99)):
            for number in range(3):
                inputs = [(0, 1), (1, 2), (2, 3)]
                inputs[number] = wrong
                self.check_bad(number, "symbol", SWAPPED, inputs)

    def test_length_ahead_of_symbol(self):
        for wrong in ((4,), (-1,), (4, 4, 4), (0, 0, 4)):
            self.check_bad(0, "length", SWAPPED, (wrong,))

    def test_the_first_wrong_one(self):
        self.check_bad(0, "symbol", SWAPPED, ((0, 4), (0,)))
        self.check_bad(0, "length", SWAPPED, ((0,), (0, 4)))
        self.check_bad(1, "symbol", SWAPPED, ((0, 0), (4, 0), (0,), (0, 4)))
        self.check_bad(1, "length", SWAPPED, ((0, 0), (), (0, 4), ()))
        self.check_bad(11, "symbol", SWAPPED, (*((0, 0),) * 11, (0, 4)))

    def test_as_long_as_positions_not_as_outputs(self):
        self.check_bad(0, "length", SWAPPED, ((0, 0, 0),))
        self.check_bad(0, "length", TURNED, ((0,),))

    def test_what_was_passed_may_be_changed_afterwards(self):
        inputs = [[0, 1], [2, 3]]
        told = settled_inputs(SWAPPED, inputs)
        inputs[0][0] = 3
        inputs.pop()
        self.assertEqual(told, ((0, 1), (2, 3)))


class OutputsTest(CallCase):
    def check_bad(self, number, reason, family, inputs, outputs):
        wanted = {"number": number, "reason": reason}
        self.check_error(BadOutputs, wanted, settled_outputs, family, inputs, outputs)

    def test_settled(self):
        self.check_call((), settled_outputs, SWAPPED, (), ())
        outputs = ((0, 1, 2), (3, 3, 3))
        self.check_call(outputs, settled_outputs, SWAPPED, ((0, 0), (1, 1)), outputs)
        self.check_call(((3,) * 12,), settled_outputs, GREAT, ((0,) * 12,), ((3,) * 12,))

    def test_no_outputs(self):
        family = Family(2, 1, 0, [], [])
        self.check_call(((), ()), settled_outputs, family, ((0,), (1,)), ((), ()))
        self.check_bad(1, "length", family, ((0,), (1,)), ((), (0,)))

    def test_many(self):
        inputs = ((0, 0), (1, 1))
        for many in (0, 1, 3, 4, 13):
            self.check_bad(None, "many", SWAPPED, inputs, ((0, 0, 0),) * many)
        self.check_bad(None, "many", SWAPPED, (), ((0, 0, 0),))

    def test_many_ahead_of_all_else(self):
        for wrong in ((), (0, 0), (0, 0, 4), (-1, 0, 0)):
            self.check_bad(None, "many", SWAPPED, ((0, 0),), (wrong, wrong))
            self.check_bad(None, "many", SWAPPED, ((0, 0), (1, 1)), (wrong,))

    def test_more_than_12(self):
        for many in (12, 13, 14, 40):
            outputs = tuple((number % 4, 0, 3) for number in range(many))
            self.check_call(outputs, settled_outputs, SWAPPED, ((0, 0),) * many, outputs)
        self.check_bad(None, "many", SWAPPED, ((0, 0),) * 13, ((0, 0, 0),) * 12)
        self.check_bad(None, "many", SWAPPED, ((0, 0),) * 12, ((0, 0, 0),) * 13)
        self.check_bad(12, "symbol", SWAPPED, ((0, 0),) * 13, ((0, 0, 0),) * 12 + ((0, 0, 4),))

    def test_the_inputs_are_only_counted(self):
        for wrong in ((), (0,), (0, 4), (-1, 0, 0)):
            outputs = ((0, 1, 2), (3, 2, 1))
            self.check_call(outputs, settled_outputs, SWAPPED, (wrong, wrong), outputs)
            self.check_bad(1, "length", SWAPPED, (wrong, wrong), ((0, 1, 2), (3, 2)))

    def test_length(self):
        for wrong in ((), (0,), (0, 0), (0, 0, 0, 0)):
            for number in range(3):
                outputs = [(0, 1, 2), (1, 2, 3), (2, 3, 0)]
                outputs[number] = wrong
                self.check_bad(number, "length", SWAPPED, ((0, 0),) * 3, outputs)

    def test_symbol(self):
        for wrong in ((-1, 0, 0), (0, 0, -1), (4, 0, 0), (0, 0, 4), (0, -4, 0), (99, 99, 99)):
            for number in range(3):
                outputs = [(0, 1, 2), (1, 2, 3), (2, 3, 0)]
                outputs[number] = wrong
                self.check_bad(number, "symbol", SWAPPED, ((0, 0),) * 3, outputs)

    def test_length_ahead_of_symbol(self):
        for wrong in ((4,), (-1, -1), (0, 0, 0, 4)):
            self.check_bad(0, "length", SWAPPED, ((0, 0),), (wrong,))

    def test_the_first_wrong_one(self):
        inputs = ((0, 0),) * 3
        self.check_bad(0, "symbol", SWAPPED, inputs, ((0, 0, 4), (0, 0), (0, 0, 0)))
        self.check_bad(0, "length", SWAPPED, inputs, ((0, 0), (0, 0, 4), (0, 0, 0)))
        self.check_bad(1, "symbol", SWAPPED, inputs, ((0, 0, 0), (4, 0, 0), ()))
        self.check_bad(1, "length", SWAPPED, inputs, ((0, 0, 0), (), (4, 0, 0)))

    def test_what_was_passed_may_be_changed_afterwards(self):
        outputs = [[0, 1, 2], [3, 2, 1]]
        told = settled_outputs(SWAPPED, [[0, 0], [1, 1]], outputs)
        outputs[0][0] = 3
        outputs.pop()
        self.assertEqual(told, ((0, 1, 2), (3, 2, 1)))


if __name__ == "__main__":
    unittest.main()
