"""Usable rows by their indices, and indices of usable rows ([D5])."""

from itertools import product

from moveseen.changes import all_changes
from moveseen.counting import BadLength, capacity
from moveseen.ranking import NoRow, usable_index, usable_row
from moveseen.rows import BadRow, is_usable
from tests.helpers import GROUPS, CallCase, closed_constants, usable_by_hand

TWO = all_changes(2, [(1, 0)])
FOUR = all_changes(4, [(1, 0, 2, 3)])
ALONE = all_changes(3, [])
TURNS = all_changes(3, [(1, 2, 0)])
SIX = all_changes(3, [(1, 0, 2), (0, 2, 1)])
PAIRS = all_changes(4, [(1, 0, 3, 2)])
ALL_OF_FOUR = all_changes(4, [(1, 0, 2, 3), (1, 2, 3, 0)])
EIGHT = all_changes(8, [])


def short_lengths(changes):
    return [length for length in range(6) if len(changes[0]) ** length <= 300]


class ShortRowsTest(CallCase):
    def test_examples_of_the_document(self):
        self.check_call((0, 0, 1), usable_row, TWO, (0, 1), 3, 0)
        self.check_call((2, 0), usable_row, FOUR, (), 2, 4)
        self.check_call(2, usable_index, TWO, (0, 1), (0, 1, 1))
        self.check_call(None, usable_index, FOUR, (), (2, 1))

    def test_all_rows_in_order(self):
        for changes in GROUPS:
            for constants in closed_constants(changes):
                for length in short_lengths(changes):
                    many = capacity(changes, constants, length)
                    told = [usable_row(changes, constants, length, index) for index in range(many)]
                    self.assertEqual(told, usable_by_hand(changes, constants, length))

    def test_the_index_of_each_row(self):
        for changes in GROUPS:
            for constants in closed_constants(changes):
                for length in short_lengths(changes):
                    usable = usable_by_hand(changes, constants, length)
                    places = {row: index for index, row in enumerate(usable)}
                    for row in product(range(len(changes[0])), repeat=length):
                        self.assertEqual(usable_index(changes, constants, row), places.get(row))

    def test_empty_row(self):
        self.check_call((), usable_row, ALONE, (), 0, 0)
        self.check_call(0, usable_index, ALONE, (), ())
        for changes, constants in ((ALONE, (1,)), (ALONE, (0, 1, 2)), (TWO, ()), (TWO, (0, 1))):
            self.check_call(None, usable_index, changes, constants, ())
            self.check_error(NoRow, {}, usable_row, changes, constants, 0, 0)

    def test_one_symbol(self):
        for index, symbol in enumerate((0, 2)):
            self.check_call((symbol,), usable_row, ALONE, (1,), 1, index)
            self.check_call(index, usable_index, ALONE, (1,), (symbol,))
        self.check_call(None, usable_index, ALONE, (1,), (1,))
        self.check_call((2,), usable_row, PAIRS, (0, 1), 1, 0)
        self.check_call(0, usable_index, PAIRS, (0, 1), (2,))

    def test_rows_round_a_constant_repeated(self):
        self.check_call((1, 1, 0), usable_row, ALONE, (1,), 3, 12)
        self.check_call((1, 1, 2), usable_row, ALONE, (1,), 3, 13)
        self.check_call(12, usable_index, ALONE, (1,), (1, 1, 0))
        self.check_call(13, usable_index, ALONE, (1,), (1, 1, 2))
        self.check_call(None, usable_index, ALONE, (1,), (1, 1, 1))
        self.check_call((1, 1, 1), usable_row, ALONE, (0,), 3, 12)


class LongRowsTest(CallCase):
    def kinds(self):
        for changes in GROUPS:
            rows = list(closed_constants(changes))
            yield changes, rows[0]
            yield changes, rows[-1]

    def indices(self, many):
        near = [*range(3), *range(many - 3, many)]
        far = [many // 2 - 1, many // 2, many // 3, many * 5 // 7, many - many // 1000]
        return sorted({index for index in (*near, *far) if 0 <= index < many})

    def test_one_leads_back_to_the_other(self):
        for changes, constants in self.kinds():
            for length in (7, 40, 300):
                many = capacity(changes, constants, length)
                told = []
                for index in self.indices(many):
                    row = usable_row(changes, constants, length, index)
                    self.assertEqual(len(row), length)
                    self.assertTrue(is_usable(changes, constants, row))
                    self.assertEqual(usable_index(changes, constants, row), index)
                    told.append(row)
                self.assertEqual(told, sorted(set(told)))

    def test_all_lengths(self):
        for length in range(1, 301):
            for changes, constants in ((TWO, (0, 1)), (PAIRS, (0, 1, 2, 3)), (SIX, ())):
                many = capacity(changes, constants, length)
                for index in self.indices(many)[-3:]:
                    row = usable_row(changes, constants, length, index)
                    self.assertEqual(usable_index(changes, constants, row), index)

    def test_numbers_in_rows(self):
        # With one change alone a row is its index, written to the base of the number of symbols.
        self.check_call((0,) * 299 + (5,), usable_row, EIGHT, (), 300, 5)
        self.check_call((7,) * 300, usable_row, EIGHT, (), 300, 8 ** 300 - 1)
        self.check_call((1,) + (0,) * 299, usable_row, EIGHT, (), 300, 8 ** 299)
        self.check_call(8 ** 299 - 1, usable_index, EIGHT, (0,), (1,) + (0,) * 299)
        # With a turn of all symbols each row begins with 0.
        self.check_call((0,) + (2,) * 299, usable_row, TURNS, (), 300, 3 ** 299 - 1)
        self.check_call((0,) * 299 + (1,), usable_row, TURNS, (0, 1, 2), 300, 0)
        self.check_call(3 ** 299 - 2, usable_index, TURNS, (0, 1, 2), (0,) + (2,) * 299)

    def test_constants_repeated(self):
        for length in (40, 300):
            half = 4 ** (length - 1)
            self.check_call((0,) * (length - 1) + (1,), usable_row, PAIRS, (0, 1, 2, 3), length, 0)
            self.check_call(None, usable_index, PAIRS, (0, 1, 2, 3), (0,) * length)
            self.check_call(None, usable_index, PAIRS, (2, 3), (2,) * length)
            self.check_call(0, usable_index, PAIRS, (2, 3), (0,) * length)
            before = (2,) * (length - 1) + (1,)
            behind = (2,) * (length - 1) + (3,)
            index = usable_index(PAIRS, (2, 3), before)
            self.check_call(before, usable_row, PAIRS, (2, 3), length, index)
            self.check_call(behind, usable_row, PAIRS, (2, 3), length, index + 1)
            self.check_call(index + 1, usable_index, PAIRS, (2, 3), behind)
            self.assertEqual(usable_index(PAIRS, (), behind), index + 2)
            self.assertEqual(usable_index(PAIRS, (0, 1), (2,) + (0,) * (length - 1)), half - 1)

    def test_rows_that_are_not_usable(self):
        self.check_call(None, usable_index, TWO, (), (1,) * 300)
        self.check_call(None, usable_index, SIX, (), (0,) * 299 + (2,))
        self.check_call(None, usable_index, SIX, (), (0,) * 300)
        self.check_call(0, usable_index, SIX, (), (0,) * 299 + (1,))
        self.check_call(None, usable_index, ALL_OF_FOUR, (), (0, 1) * 150)
        self.check_call(None, usable_index, ALL_OF_FOUR, (), (0, 1) * 149 + (3, 2))


class WrongArgumentTest(CallCase):
    def test_no_row(self):
        for changes in (TWO, FOUR, ALONE, SIX, ALL_OF_FOUR):
            for constants in closed_constants(changes):
                for length in (0, 1, 2, 3, 300):
                    many = capacity(changes, constants, length)
                    for index in (-1, -many - 1, many, many + 1, 10 ** 400):
                        self.check_error(NoRow, {}, usable_row, changes, constants, length, index)

    def test_bad_length_comes_ahead_of_no_row(self):
        for length in (-1, 301, 10 ** 30):
            for index in (-1, 0, 10 ** 400):
                self.check_error(BadLength, {}, usable_row, TWO, (), length, index)
                self.check_error(BadLength, {}, usable_row, ALONE, (0,), length, index)

    def test_bad_row(self):
        for row, place in (((4,), 0), ((0, -1, 7), 1), ((3, 3, 4), 2), ((0,) * 299 + (9,), 299)):
            for constants in ((), (2, 3), (0, 1, 2, 3)):
                self.check_error(BadRow, {"place": place}, usable_index, FOUR, constants, row)

    def test_bad_row_comes_ahead_of_bad_length(self):
        self.check_error(BadRow, {"place": 300}, usable_index, TWO, (), (0,) * 300 + (2,))
        self.check_error(BadRow, {"place": 0}, usable_index, TWO, (0, 1), (-1,) * 400)

    def test_rows_that_are_too_long(self):
        for row in ((0,) * 301, (0,) * 300 + (1,), (1,) * 301, (0, 1) * 200):
            self.check_error(BadLength, {}, usable_index, TWO, (), row)
            self.check_error(BadLength, {}, usable_index, TWO, (0, 1), row)
        self.check_call(0, usable_index, TWO, (), (0,) * 300)
