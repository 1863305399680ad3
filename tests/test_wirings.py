"""What wirings give, and wirings joined with one another ([B3], [B4])."""

from itertools import product

from moveseen.families import BadInputs, BadWiring, Family, NoSource, shown
from moveseen.wirings import NotSquare, applied, joined, outputs_of, power, untouched
from tests.helpers import CallCase, look_of

EXAMPLE = Family(4, 3, 3, [(1, 0, 3, 2)], [2, 3])
TURNED = Family(3, 2, 2, [(1, 2, 0)], [0, 1, 2])
SIX = Family(3, 2, 2, [(1, 0, 2), (0, 2, 1)], [])
WIDE = Family(4, 2, 3, [(1, 0, 2, 3)], [3])
NARROW = Family(4, 3, 1, [(1, 0, 2, 3)], [3])
SILENT = Family(2, 3, 0, [(1, 0)], [])
BLIND = Family(2, 0, 2, [(1, 0)], [0, 1])
BARE = Family(2, 0, 0, [], [])
GREAT = Family(4, 12, 12, [(1, 0, 2, 3), (1, 2, 3, 0)], [0, 1, 2, 3])

FIRST = ((1, 1), (2, 0), 3)


def wirings_of(family):
    return list(product(family.sources, repeat=family.outputs))


def inputs_of(family):
    return list(product(range(family.symbols), repeat=family.positions))


class AppliedTest(CallCase):
    def test_example_of_the_document(self):
        self.check_call((0, 2, 3), applied, EXAMPLE, FIRST, (0, 1, 2))
        self.check_call(((0, 2, 3),), outputs_of, EXAMPLE, FIRST, [(0, 1, 2)])

    def test_positions_with_changes_and_constants(self):
        self.check_call((1, 3, 3), applied, WIDE, ((0, 1), (1, 0), 3), (0, 3))
        self.check_call((3, 0, 2), applied, WIDE, (3, (1, 1), (0, 0)), (2, 1))
        self.check_call((2, 2), applied, TURNED, ((0, 2), 2), (0, 1))
        self.check_call((1, 0), applied, TURNED, ((1, 1), (1, 0)), (2, 0))
        self.check_call((3,), applied, NARROW, ((2, 0),), (0, 1, 3))

    def test_each_wiring_shows_its_sources(self):
        for family in (TURNED, WIDE):
            given = inputs_of(family)[5]
            for wiring in wirings_of(family):
                wanted = tuple(shown(family, source, given) for source in wiring)
                self.assertEqual(applied(family, wiring, given), wanted)

    def test_outputs_of_many_inputs(self):
        inputs = inputs_of(TURNED)
        wanted = tuple((symbol, (first + 1) % 3) for first, symbol in inputs)
        self.check_call(wanted, outputs_of, TURNED, ((1, 0), (0, 1)), inputs)
        for wiring in wirings_of(WIDE):
            wanted = tuple(applied(WIDE, wiring, given) for given in inputs_of(WIDE)[:12])
            self.assertEqual(outputs_of(WIDE, wiring, inputs_of(WIDE)[:12]), wanted)

    def test_twelve_inputs(self):
        inputs = [(number % 3, number % 2) for number in range(12)]
        wanted = tuple((number % 2, 2) for number in range(12))
        self.check_call(wanted, outputs_of, TURNED, ((1, 0), 2), inputs)

    def test_no_inputs(self):
        for family in (EXAMPLE, WIDE, SILENT, BARE):
            self.check_call((), outputs_of, family, wirings_of(family)[0], ())

    def test_no_outputs(self):
        self.check_call((), applied, SILENT, (), (0, 1, 1))
        self.check_call(((), ()), outputs_of, SILENT, (), [(0, 1, 1), (0, 0, 0)])
        self.check_call((), applied, BARE, (), ())
        self.check_call(((),), outputs_of, BARE, (), [()])

    def test_no_positions(self):
        self.check_call((1, 0), applied, BLIND, (1, 0), ())
        self.check_call(((1, 0), (1, 0)), outputs_of, BLIND, (1, 0), [(), ()])

    def test_the_greatest_family(self):
        wiring = (*(((output + 1) % 12, 23 - output) for output in range(10)), 3, 0)
        given = (0, 1, 2, 3, 3, 2, 1, 0, 2, 0, 3, 1)
        wanted = tuple(GREAT.changes[23 - output][given[output + 1]] for output in range(10))
        self.check_call((*wanted, 3, 0), applied, GREAT, wiring, given)

    def test_different_wirings_differ_for_some_input(self):
        told = {outputs_of(TURNED, wiring, inputs_of(TURNED)) for wiring in wirings_of(TURNED)}
        self.assertEqual(len(told), len(wirings_of(TURNED)))


class WrongArgumentTest(CallCase):
    def check_both(self, kind, wanted, family, wiring, given):
        self.check_error(kind, wanted, applied, family, wiring, given)
        self.check_error(kind, wanted, outputs_of, family, wiring, [given])

    def test_bad_wiring_length(self):
        wanted = {"output": None, "reason": "length"}
        for wiring in ((), ((0, 0),), ((0, 0), (0, 0), (0, 0)), (7, 7, 7)):
            self.check_both(BadWiring, wanted, TURNED, wiring, (0, 0))
        self.check_both(BadWiring, wanted, SILENT, ((0, 0),), (0, 0, 0))

    def test_bad_wiring_first_wrong_output(self):
        for wiring, output, reason in (
            (((0, 0), 2, 3), 1, "constant"),
            ((-1, (9, 0), 3), 0, "constant"),
            (((0, 0), (2, 0), 7), 1, "position"),
            (((-1, 5), 3, 3), 0, "position"),
            (((0, 0), (1, 2), 7), 1, "change"),
            (((0, 0), (1, 1), (0, -1)), 2, "change"),
            ((3, 3, (2, 9)), 2, "position"),
        ):
            wanted = {"output": output, "reason": reason}
            self.check_both(BadWiring, wanted, WIDE, wiring, (0, 0))

    def test_bad_wiring_comes_ahead_of_bad_inputs(self):
        wanted = {"output": 1, "reason": "change"}
        for given in ((), (4, 4), (0, 0, 0)):
            self.check_both(BadWiring, wanted, WIDE, (3, (0, 2), 3), given)
        self.check_error(BadWiring, wanted, outputs_of, WIDE, (3, (0, 2), 3), [()] * 13)
        self.check_error(BadWiring, wanted, outputs_of, WIDE, (3, (0, 2), 3), [])

    def test_bad_input_of_applied_and_shown(self):
        for given, reason in (
            ((), "length"), ((0,), "length"), ((0, 9, 9), "length"),
            ((0, 4), "symbol"), ((-1, 0), "symbol"), ((9, -9), "symbol"),
        ):
            wanted = {"number": 0, "reason": reason}
            self.check_error(BadInputs, wanted, applied, WIDE, (3, (0, 0), 3), given)
            self.check_error(BadInputs, wanted, shown, WIDE, (0, 0), given)
        self.check_error(BadInputs, {"number": 0, "reason": "length"}, applied, SILENT, (), ())
        self.check_error(NoSource, {}, shown, WIDE, (0, 2), ())

    def test_bad_inputs_of_outputs_of(self):
        wiring = (3, (0, 0), 3)
        wanted = {"number": None, "reason": "many"}
        self.check_error(BadInputs, wanted, outputs_of, WIDE, wiring, [(0, 0)] * 13)
        self.check_error(BadInputs, wanted, outputs_of, WIDE, wiring, [(9,)] * 13)
        wanted = {"number": 1, "reason": "length"}
        self.check_error(BadInputs, wanted, outputs_of, WIDE, wiring, [(0, 0), (4,), (4, 4)])
        wanted = {"number": 2, "reason": "symbol"}
        self.check_error(BadInputs, wanted, outputs_of, WIDE, wiring, [(0, 0), (3, 3), (0, 4), ()])


class JoinedTest(CallCase):
    def test_examples_of_the_document(self):
        self.check_call(((2, 1), 3, 3), joined, EXAMPLE, FIRST, FIRST)
        back = ((2, 0), (0, 1), (1, 0))
        self.check_call(untouched(EXAMPLE), joined, EXAMPLE, ((1, 1), (2, 0), (0, 0)), back)
        self.check_call(untouched(EXAMPLE), joined, EXAMPLE, back, ((1, 1), (2, 0), (0, 0)))

    def test_untouched(self):
        self.check_call(((0, 0), (1, 0), (2, 0)), untouched, EXAMPLE)
        self.check_call((), untouched, BARE)
        self.check_call(tuple((position, 0) for position in range(12)), untouched, GREAT)
        for family in (EXAMPLE, TURNED, SIX):
            for given in inputs_of(family):
                self.assertEqual(applied(family, untouched(family), given), given)

    def test_sources_of_joined_wirings(self):
        # The changes of SIX are (0, 1, 2), (0, 2, 1), (1, 0, 2), (1, 2, 0), (2, 0, 1), (2, 1, 0):
        # in which order two of them are made counts.
        self.check_call(((1, 3), (0, 0)), joined, SIX, ((0, 0), (1, 1)), ((1, 2), (0, 0)))
        self.check_call(((1, 4), (0, 0)), joined, SIX, ((0, 0), (1, 2)), ((1, 1), (0, 0)))
        self.check_call(((0, 0), (0, 3)), joined, SIX, ((1, 1), (0, 2)), ((1, 2), (1, 5)))
        self.check_call(((1, 4), (1, 1)), joined, SIX, ((1, 1), (0, 2)), ((0, 5), (0, 0)))

    def test_constants_are_moved_by_the_second_change(self):
        self.check_call((0, 2), joined, TURNED, ((1, 1), 2), ((1, 1), (1, 0)))
        self.check_call((1, 0), joined, TURNED, (0, 1), ((0, 1), (1, 2)))

    def test_constants_of_the_second_wiring_stay(self):
        self.check_call((2, 1), joined, TURNED, ((1, 1), 2), (2, 1))
        self.check_call((2, (1, 0)), joined, TURNED, ((1, 1), 0), (2, (0, 2)))

    def test_joined_give_what_the_second_gives_for_the_first(self):
        for family, step in ((TURNED, 1), (SIX, 1), (EXAMPLE, 37)):
            inputs = inputs_of(family)[:12]
            for first, second in list(product(wirings_of(family), repeat=2))[::step]:
                both = joined(family, first, second)
                given = [applied(family, first, row) for row in inputs]
                self.assertEqual(outputs_of(family, both, inputs), outputs_of(family, second, given))

    def test_untouched_ahead_and_behind(self):
        for family in (TURNED, SIX, EXAMPLE):
            for wiring in wirings_of(family):
                self.assertEqual(joined(family, untouched(family), wiring), wiring)
                self.assertEqual(joined(family, wiring, untouched(family)), wiring)
        self.check_call(FIRST, joined, EXAMPLE, untouched(EXAMPLE), FIRST)

    def test_which_two_are_joined_first(self):
        rows = wirings_of(SIX)[::5] + wirings_of(SIX)[:3]
        for first, second, third in product(rows, repeat=3):
            ahead = joined(SIX, joined(SIX, first, second), third)
            self.assertEqual(ahead, joined(SIX, first, joined(SIX, second, third)))

    def test_no_positions_and_no_outputs(self):
        self.check_call((), joined, BARE, (), ())
        self.check_call((), power, BARE, (), 10 ** 60)

    def test_the_greatest_family(self):
        first = tuple(((output + 1) % 12, 23) for output in range(12))
        second = (*(((output * 5) % 12, 7) for output in range(11)), 2)
        both = GREAT.changes.index(tuple(GREAT.changes[7][symbol] for symbol in GREAT.changes[23]))
        wanted = (*(((output * 5 + 1) % 12, both) for output in range(11)), 2)
        self.check_call(wanted, joined, GREAT, first, second)

    def test_what_is_returned_and_passed_stays(self):
        first = [[1, 1], [2, 0], 3]
        told = joined(EXAMPLE, first, first)
        before = look_of(told)
        first[0][0] = 0
        self.assertEqual(look_of(told), before)


class NotJoinedTest(CallCase):
    def test_not_square(self):
        for family in (WIDE, NARROW, SILENT, BLIND):
            wiring = wirings_of(family)[0]
            self.check_error(NotSquare, {}, untouched, family)
            self.check_error(NotSquare, {}, joined, family, wiring, wiring)

    def test_not_square_comes_ahead_of_bad_wiring(self):
        for family in (WIDE, NARROW, SILENT, BLIND):
            for first, second in ((((9, 9),), ()), ((), (9, 9)), ([9] * 12, [9] * 12)):
                self.check_error(NotSquare, {}, joined, family, first, second)

    def test_bad_wiring_of_the_first_and_of_the_second(self):
        good = ((0, 0), 2)
        for wrong, output, reason in (
            ((), None, "length"), (((0, 0), 3), 1, "constant"),
            (((2, 5), 3), 0, "position"), ((2, (1, 3)), 1, "change"),
        ):
            wanted = {"output": output, "reason": reason}
            self.check_error(BadWiring, wanted, joined, TURNED, wrong, good)
            self.check_error(BadWiring, wanted, joined, TURNED, good, wrong)
            self.check_error(BadWiring, wanted, joined, TURNED, wrong, (9, 9))
            self.check_error(BadWiring, wanted, joined, TURNED, wrong, ())
        self.check_error(BadWiring, {"output": None, "reason": "length"}, joined, BARE, (), (0,))
