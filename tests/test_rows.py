"""Rows of symbols: how they are moved, their orbits, rows and columns under inputs (part C)."""

from itertools import product

from moveseen.changes import all_changes, composed, inverse
from moveseen.families import BadInputs, Family, NoSource, shown
from moveseen.rows import (
    BadRow,
    column_of,
    first_row,
    is_free,
    is_usable,
    moved,
    orbit_of,
    rows_of,
    same_column,
)
from tests.helpers import GROUPS, CallCase, closed_constants, orbits_by_hand, usable_by_hand

FOUR = all_changes(4, [(1, 0, 2, 3)])
ALONE = all_changes(3, [])
TURNS = all_changes(3, [(1, 2, 0)])
PAIRS = all_changes(4, [(1, 0, 3, 2)])
SIX = all_changes(3, [(1, 0, 2), (0, 2, 1)])

EXAMPLE = Family(4, 2, 1, [(1, 0, 2, 3)], [2])
TURNED = Family(3, 2, 1, [(1, 2, 0)], [0, 1, 2])
BLIND = Family(3, 0, 1, [(1, 0, 2)], [0, 1, 2])
SOURCELESS = Family(2, 0, 0, [], [])
GREAT = Family(4, 12, 12, [(1, 0, 2, 3), (1, 2, 3, 0)], [0, 1, 2, 3])


def short_rows(changes, most):
    for length in range(most + 1):
        yield from product(range(len(changes[0])), repeat=length)


class MovedTest(CallCase):
    def test_ordinary(self):
        self.check_call((0, 3, 1, 0), moved, (1, 3, 0, 1), (1, 0, 2, 3))
        self.check_call((1, 2, 0), moved, (0, 1, 2), (1, 2, 0))
        self.check_call((2, 2), moved, (1, 1), (0, 2, 1))

    def test_empty_row(self):
        self.check_call((), moved, (), (1, 0))

    def test_forty_symbols(self):
        row = (0, 1, 2, 2, 1, 0, 0, 2) * 5
        self.check_call((2, 0, 1, 1, 0, 2, 2, 1) * 5, moved, row, (2, 0, 1))

    def test_two_changes(self):
        for first, second in product(SIX, repeat=2):
            row = (2, 0, 1, 1)
            self.assertEqual(moved(moved(row, first), second), moved(row, composed(first, second)))


class OrbitTest(CallCase):
    def test_examples_of_the_document(self):
        self.check_call(((0, 2), (1, 2)), orbit_of, FOUR, (0, 2))
        self.check_call((0, 2, 1), first_row, FOUR, (1, 2, 0))
        self.check_call(False, is_free, FOUR, (2, 3))

    def test_all_short_rows(self):
        for changes in GROUPS:
            most = 2 if len(changes[0]) > 4 else 3
            for length in range(most + 1):
                for orbit in orbits_by_hand(changes, length):
                    for row in orbit:
                        self.assertEqual(orbit_of(changes, row), tuple(orbit))
                        self.assertEqual(first_row(changes, row), orbit[0])
                        self.assertIs(is_free(changes, row), len(orbit) == len(changes))

    def test_empty_row(self):
        for changes in GROUPS:
            self.check_call(((),), orbit_of, changes, ())
            self.check_call((), first_row, changes, ())
            self.check_call(len(changes) == 1, is_free, changes, ())

    def test_forty_symbols(self):
        row = (2, 1) * 20
        self.check_call(((0, 2) * 20, (1, 0) * 20, (2, 1) * 20), orbit_of, TURNS, row)
        self.check_call((0, 2) * 20, first_row, TURNS, row)
        self.check_call(True, is_free, TURNS, row)
        self.check_call((0, 1) * 20, first_row, SIX, row)
        self.check_call(True, is_free, SIX, row)
        self.check_call(False, is_free, SIX, (1,) * 40)
        self.check_call(False, is_free, FOUR, (3, 2) * 20)
        self.check_call(True, is_free, FOUR, (2,) * 39 + (1,))

    def test_free_exactly_if_no_change_but_0_leaves_the_row(self):
        for changes in GROUPS:
            for row in short_rows(changes, 2):
                leaving = [number for number, change in enumerate(changes) if moved(row, change) == row]
                self.assertEqual(is_free(changes, row), leaving == [0])

    def test_one_orbit_exactly_if_the_first_rows_are_the_same(self):
        for changes in (FOUR, SIX, PAIRS):
            for row, other in product(short_rows(changes, 2), repeat=2):
                both = first_row(changes, row) == first_row(changes, other)
                self.assertEqual(both, other in orbit_of(changes, row))


class UsableTest(CallCase):
    def test_examples_of_the_document(self):
        self.check_call(True, is_usable, FOUR, (), (2, 0))
        self.check_call(False, is_usable, FOUR, (), (2, 1))

    def test_all_short_rows(self):
        for changes in GROUPS:
            most = 2 if len(changes[0]) > 4 else 3
            for constants in closed_constants(changes):
                usable = [usable_by_hand(changes, constants, length) for length in range(most + 1)]
                for row in short_rows(changes, most):
                    self.assertIs(is_usable(changes, constants, row), row in usable[len(row)])

    def test_empty_row(self):
        self.check_call(True, is_usable, ALONE, (), ())
        self.check_call(False, is_usable, ALONE, (1,), ())
        self.check_call(False, is_usable, ALONE, (0, 1, 2), ())
        self.check_call(False, is_usable, TURNS, (), ())
        self.check_call(False, is_usable, TURNS, (0, 1, 2), ())

    def test_one_constant_repeated(self):
        for length in (1, 2, 3, 40):
            self.check_call(False, is_usable, ALONE, (1,), (1,) * length)
            self.check_call(True, is_usable, ALONE, (), (1,) * length)
            self.check_call(False, is_usable, PAIRS, (0, 1), (0,) * length)
            self.check_call(True, is_usable, PAIRS, (2, 3), (0,) * length)
            self.check_call(False, is_usable, PAIRS, (2, 3), (2,) * length)

    def test_one_symbol_that_is_no_constant_repeated(self):
        for length in (1, 2, 3, 40):
            self.check_call(True, is_usable, ALONE, (1,), (0,) * length)
            self.check_call(True, is_usable, ALONE, (1,), (2,) * length)
            self.check_call(True, is_usable, PAIRS, (0, 1), (2,) * length)
            self.check_call(False, is_usable, PAIRS, (0, 1), (3,) * length)
            self.check_call(False, is_usable, FOUR, (), (2,) * length)

    def test_several_constants(self):
        self.check_call(True, is_usable, ALONE, (0, 1), (0, 1))
        self.check_call(True, is_usable, TURNS, (0, 1, 2), (0, 1))
        self.check_call(False, is_usable, TURNS, (0, 1, 2), (0, 0))
        self.check_call(False, is_usable, TURNS, (0, 1, 2), (1, 0))

    def test_forty_symbols(self):
        self.check_call(True, is_usable, TURNS, (0, 1, 2), (0,) * 39 + (1,))
        self.check_call(False, is_usable, TURNS, (0, 1, 2), (1,) * 39 + (0,))
        self.check_call(True, is_usable, FOUR, (2, 3), (2, 3) * 19 + (2, 0))
        self.check_call(False, is_usable, FOUR, (2, 3), (2, 3) * 20)
        self.check_call(False, is_usable, FOUR, (2, 3), (2, 3) * 19 + (1, 0))


class BadRowTest(CallCase):
    def check_all(self, place, row):
        wanted = {"place": place}
        self.check_error(BadRow, wanted, moved, row, (1, 0, 2, 3))
        for function in (orbit_of, first_row, is_free):
            self.check_error(BadRow, wanted, function, FOUR, row)
        for constants in ((), (2, 3)):
            self.check_error(BadRow, wanted, is_usable, FOUR, constants, row)

    def test_first_wrong_place(self):
        self.check_all(0, (4,))
        self.check_all(0, (-1, 0, 9))
        self.check_all(1, (3, 4, -1))
        self.check_all(2, (3, 1, -4, 0))
        self.check_all(2, (1, 0, 10 ** 9))
        self.check_all(39, (1, 0, 2) * 13 + (4,))
        self.check_all(3, (0, 1, 2, 9) * 10)

    def test_the_symbols_are_those_that_the_changes_move(self):
        self.check_error(BadRow, {"place": 1}, moved, (0, 2), (1, 0))
        self.check_error(BadRow, {"place": 1}, orbit_of, TURNS, (2, 3))
        self.check_call((0, 3), moved, (0, 3), (0, 1, 2, 3))


class RowsOfTest(CallCase):
    def test_example_of_the_document(self):
        self.check_call(((0, 1), (2, 2)), rows_of, EXAMPLE, [(0, 2), (1, 2)])

    def test_no_inputs(self):
        self.check_call(((), ()), rows_of, EXAMPLE, ())
        self.check_call((), rows_of, BLIND, ())

    def test_twelve_inputs(self):
        inputs = [(number % 4, 3 - number % 3) for number in range(12)]
        wanted = ((0, 1, 2, 3) * 3, (3, 2, 1) * 4)
        self.check_call(wanted, rows_of, EXAMPLE, inputs)

    def test_no_positions(self):
        self.check_call((), rows_of, BLIND, [(), ()])
        self.check_call((), rows_of, SOURCELESS, [()] * 12)


class ColumnTest(CallCase):
    INPUTS = ((0, 2), (1, 2))

    def test_examples_of_the_document(self):
        self.check_call((1, 0), column_of, EXAMPLE, self.INPUTS, (0, 1))
        self.check_call(((1, 0), (1, 1), 2), same_column, EXAMPLE, self.INPUTS, 2)

    def test_each_source_of_some_inputs(self):
        for family in (EXAMPLE, TURNED):
            every = list(product(range(family.symbols), repeat=2))
            for inputs in ((), every[:1], every[3:7], every[:12]):
                columns = {}
                for source in family.sources:
                    columns[source] = tuple(shown(family, source, given) for given in inputs)
                for source, column in columns.items():
                    self.check_call(column, column_of, family, inputs, source)
                    same = tuple(other for other in columns if columns[other] == column)
                    self.assertIn(source, same)
                    self.check_call(same, same_column, family, inputs, source)

    def test_column_is_the_row_moved_or_the_constant_repeated(self):
        inputs = [(0, 1), (2, 2), (1, 0), (2, 1)]
        for position, row in enumerate(rows_of(TURNED, inputs)):
            for number, change in enumerate(TURNED.changes):
                self.check_call(moved(row, change), column_of, TURNED, inputs, (position, number))
        for constant in TURNED.constants:
            self.check_call((constant,) * 4, column_of, TURNED, inputs, constant)

    def test_no_inputs(self):
        for family in (EXAMPLE, TURNED, BLIND):
            for source in family.sources:
                self.check_call((), column_of, family, (), source)
                self.check_call(family.sources, same_column, family, (), source)

    def test_twelve_inputs(self):
        inputs = [(number % 4, 3) for number in range(12)]
        self.check_call((1, 0, 2, 3) * 3, column_of, EXAMPLE, inputs, (0, 1))
        self.check_call(((0, 1),), same_column, EXAMPLE, inputs, (0, 1))
        self.check_call(((1, 0), (1, 1)), same_column, EXAMPLE, inputs, (1, 1))
        self.check_call((2,), same_column, EXAMPLE, inputs, 2)

    def test_no_positions(self):
        self.check_call((1, 1), column_of, BLIND, [(), ()], 1)
        self.check_call((1,), same_column, BLIND, [(), ()], 1)

    def test_the_greatest_family(self):
        inputs = [tuple((position + number) % 4 for position in range(12)) for number in range(12)]
        told = same_column(GREAT, inputs, (3, 5))
        # Positions whose numbers differ by 4 have the same row, the others are moved round.
        self.assertEqual(len(told), 12)
        self.assertEqual(told[::4], ((0, told[0][1]), (4, told[0][1]), (8, told[0][1])))
        self.assertIn((3, 5), told)
        self.assertEqual(same_column(GREAT, inputs[:1], 1)[-1], 1)
        self.assertEqual(len(same_column(GREAT, inputs[:1], 1)), 12 * 6 + 1)

    def test_same_columns_of_one_position(self):
        # Two changes give one position the same column if undoing the one behind the other leaves its row.
        inputs = [(0, 1, 2), (2, 1, 2), (2, 1, 1)]
        family = Family(3, 3, 1, [(1, 0, 2), (0, 2, 1)], [])
        for position, row in enumerate(rows_of(family, inputs)):
            for first, second in product(range(6), repeat=2):
                back = composed(family.changes[first], inverse(family.changes[second]))
                same = (position, second) in same_column(family, inputs, (position, first))
                self.assertEqual(same, moved(row, back) == row)

    def test_columns_in_common(self):
        inputs = [(0, 1, 2), (0, 1, 1), (0, 1, 0)]
        family = Family(3, 3, 1, [(1, 0, 2)], [0, 1, 2])
        rows = rows_of(family, inputs)
        for position, other in product(range(3), repeat=2):
            told = [same_column(family, inputs, (position, number)) for number in range(2)]
            meet = any((other, number) in part for part in told for number in range(2))
            self.assertEqual(meet, rows[other] in orbit_of(family.changes, rows[position]))
        for position, constant in product(range(3), range(3)):
            told = same_column(family, inputs, constant)
            meet = any((position, number) in told for number in range(2))
            orbit = orbit_of(family.changes, rows[position])
            self.assertEqual(meet, (constant,) * 3 in orbit)

    def test_no_source(self):
        for inputs in ((), self.INPUTS):
            for source in ((2, 0), (-1, 0), (0, 2), (0, -1), 0, 3, -1):
                self.check_error(NoSource, {}, column_of, EXAMPLE, inputs, source)
                self.check_error(NoSource, {}, same_column, EXAMPLE, inputs, source)
        self.check_error(NoSource, {}, column_of, SOURCELESS, [()], (0, 0))
        self.check_error(NoSource, {}, same_column, SOURCELESS, [()], 0)


class BadInputsTest(CallCase):
    def test_bad_inputs_come_ahead_of_no_source(self):
        for inputs, number, reason in (
            ([(0, 0)] * 13, None, "many"),
            ([(9,)] * 13, None, "many"),
            ([(0, 0), (0,), (4, 4)], 1, "length"),
            ([(0, 0, 0)], 0, "length"),
            ([(0, 0), (3, 3), (0, 4), ()], 2, "symbol"),
            ([(-1, 0)], 0, "symbol"),
        ):
            wanted = {"number": number, "reason": reason}
            self.check_error(BadInputs, wanted, rows_of, EXAMPLE, inputs)
            for source in ((0, 0), 2, (2, 0), 0):
                self.check_error(BadInputs, wanted, column_of, EXAMPLE, inputs, source)
                self.check_error(BadInputs, wanted, same_column, EXAMPLE, inputs, source)
        wanted = {"number": 1, "reason": "length"}
        self.check_error(BadInputs, wanted, rows_of, BLIND, [(), (0,)])
