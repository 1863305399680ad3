"""Answers ([H1]): the sources and the wirings that outputs leave, and their numbers."""

from itertools import product

from moveseen.answers import left_sources, wiring_at, wiring_count, wiring_index
from moveseen.families import BadInputs, BadOutputs, BadWiring, Family
from moveseen.wirings import outputs_of
from tests.helpers import SMALL_FAMILIES, CallCase, all_inputs, all_wirings, gives_by_hand

EXAMPLE = Family(2, 3, 2, [(1, 0)], [0, 1])
TURNED = Family(3, 2, 2, [(1, 2, 0)], [0, 1, 2])
GREAT = Family(4, 12, 12, [(1, 0, 2, 3), (1, 2, 3, 0)], [0, 1, 2, 3])
NO_OUTPUTS = Family(3, 2, 0, [(1, 2, 0)], [0, 1, 2])
NO_SOURCE = Family(2, 0, 2, [], [])


class LeftTest(CallCase):
    def check_both(self, sources, many, family, inputs, outputs):
        self.check_call(sources, left_sources, family, inputs, outputs)
        self.check_call(many, wiring_count, family, inputs, outputs)

    def test_example_of_the_document(self):
        sources = (((0, 1), (1, 0), (2, 0), 1), ((0, 0), (1, 1), (2, 1), 0))
        self.check_both(sources, 16, EXAMPLE, [(0, 1, 1)], [(1, 0)])

    def test_no_inputs(self):
        for family in SMALL_FAMILIES:
            sources = (family.sources,) * family.outputs
            self.check_both(sources, len(family.sources) ** family.outputs, family, [], [])

    def test_no_outputs(self):
        for inputs in ([], [(0, 0)], [(0, 1), (2, 2)], [(1, 2)] * 12):
            self.check_both((), 1, NO_OUTPUTS, inputs, [()] * len(inputs))

    def test_no_source(self):
        self.check_both(((), ()), 0, NO_SOURCE, [], [])
        self.check_both(((), ()), 0, NO_SOURCE, [()], [(0, 1)])
        self.check_both((), 1, Family(2, 0, 0, [], []), [()], [()])

    def test_outputs_that_no_wiring_gives(self):
        family = Family(3, 2, 2, [], [])
        self.check_both((((0, 0),), ()), 0, family, [(0, 1)], [(0, 2)])
        self.check_both(((), ()), 0, family, [(0, 1)], [(2, 2)])
        self.check_both(((), ((0, 0), (1, 0))), 0, family, [(0, 0), (1, 1)], [(0, 0), (0, 1)])
        # One input with different outputs leaves nothing.
        self.check_both(((), ((0, 0),)), 0, family, [(0, 1), (0, 1)], [(0, 0), (1, 0)])

    def test_more_inputs_leave_fewer_sources(self):
        inputs = [(0, 0), (0, 1), (1, 2)]
        outputs = outputs_of(TURNED, ((1, 2), 0), inputs)
        self.assertEqual(outputs, ((2, 0), (0, 0), (1, 0)))
        self.check_both((((0, 2), (1, 2), 2), ((0, 0), (1, 0), 0)), 9, TURNED, inputs[:1], outputs[:1])
        self.check_both((((1, 2),), ((0, 0), 0)), 2, TURNED, inputs[:2], outputs[:2])
        self.check_both((((1, 2),), (0,)), 1, TURNED, inputs, outputs)

    def test_against_all_wirings(self):
        for family in SMALL_FAMILIES:
            wirings = all_wirings(family)
            for inputs in (*all_inputs(family, 1, 16), *all_inputs(family, 2, 16)):
                rows = list(product(range(family.symbols), repeat=family.outputs))
                for outputs in product(rows, repeat=len(inputs)):
                    left = [wiring for wiring in wirings if gives_by_hand(family, wiring, inputs) == outputs]
                    self.assertEqual(wiring_count(family, inputs, outputs), len(left))
                    told = left_sources(family, inputs, outputs)
                    self.assertEqual(list(product(*told)), left)

    def test_the_greatest_family(self):
        inputs = [(1,) * 12]
        told = left_sources(GREAT, inputs, [(2,) * 12])
        self.assertEqual(len(told[0]), 12 * 6 + 1)
        self.check_call(73 ** 12, wiring_count, GREAT, inputs, [(2,) * 12])
        self.check_call(292 ** 12, wiring_count, GREAT, [], [])


class NumberTest(CallCase):
    def test_example_of_the_document(self):
        inputs, outputs = [(0, 1, 1)], [(1, 0)]
        for index, wiring in ((0, ((0, 1), (0, 0))), (1, ((0, 1), (1, 1))), (15, (1, 0))):
            self.check_call(wiring, wiring_at, EXAMPLE, inputs, outputs, index)
            self.check_call(index, wiring_index, EXAMPLE, inputs, outputs, wiring)
        self.check_call(None, wiring_at, EXAMPLE, inputs, outputs, -1)
        self.check_call(None, wiring_at, EXAMPLE, inputs, outputs, 16)

    def test_all_numbers_of_small_families(self):
        for family in SMALL_FAMILIES:
            wirings = all_wirings(family)
            for inputs in ((), *all_inputs(family, 1, 16)):
                for outputs in {gives_by_hand(family, wiring, inputs) for wiring in wirings}:
                    left = [wiring for wiring in wirings if gives_by_hand(family, wiring, inputs) == outputs]
                    for index, wiring in enumerate(left):
                        self.assertEqual(wiring_at(family, inputs, outputs, index), wiring)
                    for index in (-len(left) - 1, -1, len(left), len(left) + 1, 10 ** 30):
                        self.assertIsNone(wiring_at(family, inputs, outputs, index))
                    places = {wiring: index for index, wiring in enumerate(left)}
                    for wiring in wirings:
                        self.assertEqual(wiring_index(family, inputs, outputs, wiring), places.get(wiring))

    def test_no_outputs(self):
        for inputs in ([], [(0, 0)], [(1, 2)] * 12):
            outputs = [()] * len(inputs)
            self.check_call((), wiring_at, NO_OUTPUTS, inputs, outputs, 0)
            self.check_call(None, wiring_at, NO_OUTPUTS, inputs, outputs, 1)
            self.check_call(None, wiring_at, NO_OUTPUTS, inputs, outputs, -1)
            self.check_call(0, wiring_index, NO_OUTPUTS, inputs, outputs, ())

    def test_no_wiring_is_left(self):
        family = Family(3, 2, 2, [], [])
        for index in (-1, 0, 1):
            self.check_call(None, wiring_at, family, [(0, 1)], [(0, 2)], index)
            self.check_call(None, wiring_at, NO_SOURCE, [], [], index)
        for wiring in (((0, 0), (0, 0)), ((1, 0), (0, 0))):
            self.check_call(None, wiring_index, family, [(0, 1)], [(0, 2)], wiring)

    def test_a_wiring_that_is_not_left(self):
        inputs, outputs = [(0, 1, 1)], [(1, 0)]
        for wiring in (((0, 0), (0, 0)), ((0, 1), (0, 1)), (1, 1), (0, 0), ((1, 0), (2, 0))):
            self.check_call(None, wiring_index, EXAMPLE, inputs, outputs, wiring)

    def test_very_many_wirings(self):
        self.assertGreater(wiring_count(GREAT, [], []), 10 ** 29)
        self.check_call(((0, 0),) * 12, wiring_at, GREAT, [], [], 0)
        self.check_call(((0, 0),) * 11 + ((0, 1),), wiring_at, GREAT, [], [], 1)
        self.check_call((3,) * 12, wiring_at, GREAT, [], [], 292 ** 12 - 1)
        self.check_call(None, wiring_at, GREAT, [], [], 292 ** 12)
        self.check_call(292 ** 12 - 1, wiring_index, GREAT, [], [], (3,) * 12)
        for index in (291, 292, 12345678901234567890123456789, 10 ** 29 + 7, 292 ** 12 - 292):
            digits = [index // 292 ** (11 - output) % 292 for output in range(12)]
            wiring = tuple(GREAT.sources[digit] for digit in digits)
            self.check_call(wiring, wiring_at, GREAT, [], [], index)
            self.check_call(index, wiring_index, GREAT, [], [], wiring)

    def test_one_leads_back_to_the_other(self):
        inputs = [(1,) * 12, (0, 1, 2, 3) * 3]
        outputs = outputs_of(GREAT, tuple((output, 5) for output in range(11)) + (2,), inputs)
        many = wiring_count(GREAT, inputs, outputs)
        self.assertGreater(many, 10 ** 12)
        for index in (0, 1, many // 3, many // 2 + 1, many - 2, many - 1):
            wiring = wiring_at(GREAT, inputs, outputs, index)
            self.assertEqual(outputs_of(GREAT, wiring, inputs), outputs)
            self.check_call(index, wiring_index, GREAT, inputs, outputs, wiring)
        self.check_call(None, wiring_at, GREAT, inputs, outputs, many)


class WrongArgumentsTest(CallCase):
    def check_all(self, kind, attributes, family, inputs, outputs, wirings):
        self.check_error(kind, attributes, left_sources, family, inputs, outputs)
        self.check_error(kind, attributes, wiring_count, family, inputs, outputs)
        for index in (-1, 0, 10 ** 9):
            self.check_error(kind, attributes, wiring_at, family, inputs, outputs, index)
        for wiring in wirings:
            self.check_error(kind, attributes, wiring_index, family, inputs, outputs, wiring)

    def test_bad_inputs_ahead_of_all(self):
        for inputs, number, reason in (
            ([(0, 0)] * 13, None, "many"),
            ([(0, 0), (0,), (4, 4)], 1, "length"),
            ([(0, 0), (0, 3), ()], 1, "symbol"),
            ([(-1, 0)], 0, "symbol"),
        ):
            wanted = {"number": number, "reason": reason}
            for outputs in ([], [(0, 0)] * len(inputs), [(0,)] * len(inputs), [(9, 9)]):
                self.check_all(BadInputs, wanted, TURNED, inputs, outputs, [(0, 0), (0,), ((5, 5), 0)])

    def test_bad_outputs_ahead_of_bad_wiring(self):
        inputs = [(0, 0), (1, 2), (0, 1)]
        for outputs, number, reason in (
            ([], None, "many"),
            ([(0, 0)] * 4, None, "many"),
            ([(9,)] * 2, None, "many"),
            ([(0, 0), (0,), (9, 9)], 1, "length"),
            ([(0, 0), (0, 0), (0, 0, 0)], 2, "length"),
            ([(0, 3), (0,), (9, 9)], 0, "symbol"),
            ([(0, 0), (0, -1), ()], 1, "symbol"),
        ):
            wanted = {"number": number, "reason": reason}
            self.check_all(BadOutputs, wanted, TURNED, inputs, outputs, [(0, 0), (0,), ((5, 5), 0)])
        wanted = {"number": 0, "reason": "length"}
        self.check_all(BadOutputs, wanted, NO_OUTPUTS, [(0, 0)], [(0,)], [(), (0,)])
        wanted = {"number": None, "reason": "many"}
        self.check_all(BadOutputs, wanted, NO_SOURCE, [], [(0, 0)], [()])

    def test_bad_wiring(self):
        for outputs in ([(0, 0)], [(2, 1)]):
            for wiring, output, reason in (
                ((), None, "length"),
                (((0, 0),), None, "length"),
                (((5, 0), (0, 5)), 0, "position"),
                (((0, 0), (0, 3)), 1, "change"),
                ((2, 3), 1, "constant"),
            ):
                wanted = {"output": output, "reason": reason}
                self.check_error(BadWiring, wanted, wiring_index, TURNED, [(0, 0)], outputs, wiring)
        wanted = {"output": None, "reason": "length"}
        self.check_error(BadWiring, wanted, wiring_index, NO_OUTPUTS, [], [], (0,))
        # Also where no wiring is left at all.
        wanted = {"output": 1, "reason": "position"}
        family = Family(3, 2, 2, [], [])
        self.check_error(BadWiring, wanted, wiring_index, family, [(0, 1)], [(2, 0)], ((0, 0), (2, 0)))
