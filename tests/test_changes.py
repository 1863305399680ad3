"""Changes (part A): what can be made, ways, orders, orbits, and the errors."""

import unittest
from itertools import permutations, product

from moveseen.changes import (
    BadChanges,
    NoSymbol,
    all_changes,
    composed,
    inverse,
    kept_by,
    order_of,
    symbol_orbits,
    way_to,
)
from tests.helpers import CallCase

SWAPS = [(1, 0, 2), (0, 2, 1)]
ROUND = (1, 2, 0)
# On 5 symbols the first two make 24 changes, which leave 4 where it is; the third moves it.
MAKE_24 = [(1, 0, 2, 3, 4), (1, 2, 3, 0, 4)]
MOVES_4 = (0, 1, 2, 4, 3)
# On 8 symbols: six changes of three symbols, and four of another four.
MAKE_24_OF_8 = [(1, 0, 2, 3, 4, 5, 6, 7), (1, 2, 0, 3, 4, 5, 6, 7), (0, 1, 2, 4, 5, 6, 3, 7)]
# On 8 symbols: ten changes of five symbols, and three of the others.
MAKE_30 = [(1, 2, 3, 4, 0, 5, 6, 7), (0, 4, 3, 2, 1, 5, 6, 7), (0, 1, 2, 3, 4, 6, 7, 5)]


def then(first, second):
    return tuple(second[first[symbol]] for symbol in range(len(first)))


def ways_by_trying(symbols, given):
    """Each change with its first way, found by going through all rows of numbers in order."""
    found = {}
    length = 0
    fresh = True
    while fresh:
        fresh = False
        for way in product(range(len(given)), repeat=length):
            made = tuple(range(symbols))
            for number in way:
                made = then(made, given[number])
            if made not in found:
                found[made] = way
                fresh = True
        length += 1
    return found


def some_given():
    """Many given changes of few symbols: all rows of up to 3 of them, or of up to 2."""
    for symbols, most in ((2, 3), (3, 3), (4, 2)):
        for many in range(most + 1):
            for given in product(list(permutations(range(symbols))), repeat=many):
                yield symbols, given


class AllChangesTest(CallCase):
    def test_examples_of_the_document(self):
        self.check_call(tuple(permutations(range(3))), all_changes, 3, SWAPS)
        self.check_call(((0, 1, 2), (1, 2, 0), (2, 0, 1)), all_changes, 3, [ROUND])
        self.check_call(((0, 1, 2, 3), (1, 0, 2, 3)), all_changes, 4, [(1, 0, 2, 3)])
        many = [(1, 2, 3, 4, 0), (1, 0, 2, 3, 4)]
        self.check_error(BadChanges, {"number": None, "reason": "many"}, all_changes, 5, many)

    def test_no_given_change(self):
        for symbols in range(2, 9):
            self.check_call((tuple(range(symbols)),), all_changes, symbols, [])

    def test_two_symbols(self):
        self.check_call(((0, 1), (1, 0)), all_changes, 2, [(1, 0)])
        self.check_call(((0, 1),), all_changes, 2, [(0, 1)])
        self.check_call(((0, 1), (1, 0)), all_changes, 2, [(0, 1), (1, 0), (0, 1)])

    def test_eight_symbols(self):
        turned = (1, 2, 3, 4, 5, 6, 7, 0)
        wanted = tuple(tuple((symbol + by) % 8 for symbol in range(8)) for by in range(8))
        self.check_call(wanted, all_changes, 8, [turned])
        pairs = [(1, 0, 2, 3, 4, 5, 6, 7), (0, 1, 3, 2, 4, 5, 6, 7), (0, 1, 2, 3, 5, 4, 6, 7)]
        wanted = tuple(
            (*one, *two, *three, 6, 7)
            for one in ((0, 1), (1, 0))
            for two in ((2, 3), (3, 2))
            for three in ((4, 5), (5, 4))
        )
        self.check_call(wanted, all_changes, 8, pairs)

    def test_the_same_one_given_twice(self):
        self.check_call(((0, 1, 2), (1, 2, 0), (2, 0, 1)), all_changes, 3, [ROUND, ROUND])
        self.check_call(((0, 1, 2), (1, 2, 0), (2, 0, 1)), all_changes, 3, [ROUND, ROUND, ROUND])

    def test_one_that_moves_nothing(self):
        self.check_call(((0, 1, 2),), all_changes, 3, [(0, 1, 2)])
        self.check_call(((0, 1, 2), (1, 2, 0), (2, 0, 1)), all_changes, 3, [(0, 1, 2), ROUND])

    def test_given_ones_in_another_order(self):
        for given in permutations(MAKE_24_OF_8):
            self.check_call(all_changes(8, MAKE_24_OF_8), all_changes, 8, given)

    def test_exactly_24(self):
        self.check_call(tuple(permutations(range(4))), all_changes, 4, [(1, 0, 2, 3), (1, 2, 3, 0)])
        wanted = tuple((*four, 4) for four in permutations(range(4)))
        self.check_call(wanted, all_changes, 5, MAKE_24)
        self.check_call(wanted, all_changes, 5, [*MAKE_24, (3, 2, 1, 0, 4)])
        turns = [(3, 4, 5, 6), (4, 5, 6, 3), (5, 6, 3, 4), (6, 3, 4, 5)]
        wanted = tuple((*three, *four, 7) for three in permutations(range(3)) for four in turns)
        self.check_call(wanted, all_changes, 8, MAKE_24_OF_8)

    def test_one_more_given_than_makes_24(self):
        many = {"number": None, "reason": "many"}
        self.check_error(BadChanges, many, all_changes, 5, [*MAKE_24, MOVES_4])
        self.check_error(BadChanges, many, all_changes, 5, [MOVES_4, *MAKE_24])

    def test_few_more_than_24_and_very_many(self):
        many = {"number": None, "reason": "many"}
        self.check_error(BadChanges, many, all_changes, 8, MAKE_30)
        very_many = [(1, 0, 2, 3, 4, 5, 6, 7), (1, 2, 3, 4, 5, 6, 7, 0), (7, 6, 5, 4, 3, 2, 1, 0)]
        for given in (very_many[:2], very_many):
            self.check_error(BadChanges, many, all_changes, 8, given)

    def test_all_that_can_be_made_and_no_more(self):
        for symbols, given in some_given():
            told = all_changes(symbols, given)
            self.assertEqual(told, tuple(sorted(ways_by_trying(symbols, given))), given)

    def test_what_is_made_of_changes_is_a_change(self):
        for symbols, given in ((3, SWAPS), (5, MAKE_24), (8, MAKE_24_OF_8)):
            told = all_changes(symbols, given)
            self.assertEqual(told[0], tuple(range(symbols)))
            for first in told:
                self.assertIn(inverse(first), told)
                for second in told:
                    self.assertIn(then(first, second), told)

    def test_what_was_passed_may_be_changed_afterwards(self):
        given = [[1, 0, 2], [0, 2, 1]]
        told = all_changes(3, given)
        given[0][0] = 7
        given.clear()
        self.assertEqual(told, tuple(permutations(range(3))))


class BadChangesTest(CallCase):
    def check_bad(self, number, reason, symbols, given):
        wanted = {"number": number, "reason": reason}
        self.check_error(BadChanges, wanted, all_changes, symbols, given)
        for change in (tuple(range(symbols)), (1, 0), (), (5, 5, 5)):
            self.check_error(BadChanges, wanted, way_to, symbols, given, change)

    def test_symbols(self):
        for symbols in (-1, 0, 1, 9, 10):
            self.check_bad(None, "symbols", symbols, [])
            self.check_bad(None, "symbols", symbols, [tuple(range(symbols))])

    def test_given(self):
        self.check_bad(None, "given", 2, [(1, 0)] * 4)
        self.check_bad(None, "given", 3, [(0, 1, 2)] * 5)

    def test_length(self):
        for change in ((), (0,), (0, 1), (0, 1, 2, 3)):
            self.check_bad(0, "length", 3, [change])
            self.check_bad(1, "length", 3, [ROUND, change])
            self.check_bad(2, "length", 3, [ROUND, ROUND, change])

    def test_symbol(self):
        for change in ((0, 1, 3), (3, 1, 0), (-1, 0, 1), (0, 1, -1), (0, 9, 2)):
            self.check_bad(0, "symbol", 3, [change])
            self.check_bad(1, "symbol", 3, [ROUND, change])
            self.check_bad(2, "symbol", 3, [ROUND, ROUND, change])

    def test_twice(self):
        for change in ((0, 0, 1), (0, 1, 1), (2, 1, 2), (2, 2, 2)):
            self.check_bad(0, "twice", 3, [change])
            self.check_bad(1, "twice", 3, [ROUND, change])
            self.check_bad(2, "twice", 3, [ROUND, ROUND, change])

    def test_symbols_ahead_of_all_else(self):
        self.check_bad(None, "symbols", 9, [(0, 0)] * 4)
        self.check_bad(None, "symbols", 1, [(0, 1)])
        self.check_bad(None, "symbols", 1, [(5,)])
        self.check_bad(None, "symbols", 9, [tuple([*range(8), 0])])
        self.check_bad(None, "symbols", 9, [(1, 0, 2, 3, 4, 5, 6, 7, 8), (1, 2, 3, 4, 5, 6, 7, 8, 0)])

    def test_given_ahead_of_single_ones(self):
        for change in ((0, 1), (0, 1, 3), (0, 0, 1)):
            self.check_bad(None, "given", 3, [change, ROUND, ROUND, ROUND])
            self.check_bad(None, "given", 3, [ROUND, ROUND, ROUND, change])
        self.check_bad(None, "given", 5, [*MAKE_24, MOVES_4, MOVES_4])

    def test_length_then_symbol_then_twice_of_one(self):
        self.check_bad(0, "length", 3, [(0, 7)])
        self.check_bad(0, "length", 3, [(0, 1, 2, 3)])
        self.check_bad(0, "length", 3, [(1, 1)])
        self.check_bad(0, "length", 3, [(-1, -1, 0, 0)])
        self.check_bad(0, "symbol", 3, [(1, 1, 3)])
        self.check_bad(0, "symbol", 3, [(-1, 1, 1)])
        self.check_bad(0, "symbol", 3, [(3, 3, 3)])

    def test_given_one_by_given_one(self):
        wrong = {"length": (0, 1), "symbol": (0, 1, 3), "twice": (0, 0, 1)}
        for reason, change in wrong.items():
            for other in wrong.values():
                self.check_bad(0, reason, 3, [change, other])
                self.check_bad(0, reason, 3, [change, other, other])
                self.check_bad(1, reason, 3, [ROUND, change, other])
                self.check_bad(0, reason, 3, [change, ROUND, other])

    def test_many_behind_all_else(self):
        self.check_bad(None, "many", 5, [*MAKE_24, MOVES_4])
        very_many = [(1, 0, 2, 3, 4), (1, 2, 3, 4, 0)]
        self.check_bad(None, "many", 5, very_many)
        self.check_bad(2, "length", 5, [*very_many, (0, 1)])
        self.check_bad(2, "symbol", 5, [*very_many, (0, 1, 2, 3, 5)])
        self.check_bad(2, "twice", 5, [*very_many, (0, 1, 2, 3, 3)])

    def test_many_also_for_a_change_that_is_soon_made(self):
        wanted = {"number": None, "reason": "many"}
        for change in ((0, 1, 2, 3, 4), (1, 0, 2, 3, 4), (4, 3, 2, 1, 0)):
            self.check_error(BadChanges, wanted, way_to, 5, [*MAKE_24, MOVES_4], change)


class WayTest(CallCase):
    def test_example_of_the_document(self):
        self.check_call((0, 1, 0), way_to, 3, SWAPS, (2, 1, 0))

    def test_one_after_another_in_this_order(self):
        self.check_call((0, 1), way_to, 3, SWAPS, (2, 0, 1))
        self.check_call((1, 0), way_to, 3, SWAPS, (1, 2, 0))

    def test_the_change_that_moves_nothing(self):
        self.check_call((), way_to, 3, [], (0, 1, 2))
        self.check_call((), way_to, 3, SWAPS, (0, 1, 2))
        self.check_call((), way_to, 3, [(0, 1, 2), ROUND], (0, 1, 2))

    def test_the_first_of_several(self):
        self.check_call((0,), way_to, 3, [ROUND, ROUND], ROUND)
        self.check_call((1,), way_to, 3, [(0, 1, 2), ROUND, ROUND], ROUND)
        self.check_call((0, 1), way_to, 4, [(1, 0, 2, 3), (0, 1, 3, 2)], (1, 0, 3, 2))
        self.check_call((0, 1, 0), way_to, 3, SWAPS[::-1], (2, 1, 0))

    def test_the_fewest_numbers_ahead_of_the_first(self):
        turned = (1, 2, 3, 0)
        self.check_call((0, 0), way_to, 4, [turned, (3, 0, 1, 2)], (2, 3, 0, 1))
        self.check_call((1,), way_to, 4, [turned, (3, 0, 1, 2)], (3, 0, 1, 2))
        self.check_call((2,), way_to, 4, [turned, (3, 0, 1, 2), (2, 3, 0, 1)], (2, 3, 0, 1))
        self.check_call((0,) * 7, way_to, 8, [(1, 2, 3, 4, 5, 6, 7, 0)], (7, 0, 1, 2, 3, 4, 5, 6))

    def test_none_of_all_changes(self):
        for change in ((1, 0, 2), (0, 2, 1), (2, 1, 0)):
            self.check_call(None, way_to, 3, [ROUND], change)
        self.check_call(None, way_to, 2, [], (1, 0))

    def test_a_row_that_is_no_change_at_all(self):
        rows = [(), (0,), (0, 1), (0, 1, 2, 3), (0, 0, 0), (1, 1, 2), (0, 1, 3), (-1, 0, 1)]
        for row in [*rows, (-3, -2, -1), (10 ** 30, 0, 1), (1, 0), (1, 2, 0, 3)]:
            self.check_call(None, way_to, 3, SWAPS, row)

    def test_all_first_ways(self):
        for symbols, given in some_given():
            ways = ways_by_trying(symbols, given)
            for change in permutations(range(symbols)):
                told = way_to(symbols, given, change)
                self.assertEqual(told, ways.get(change), (given, change))

    def test_first_ways_of_8_symbols(self):
        for change, way in ways_by_trying(8, MAKE_24_OF_8).items():
            self.check_call(way, way_to, 8, MAKE_24_OF_8, change)


class SingleChangesTest(CallCase):
    def test_composed(self):
        self.check_call((2, 0, 1), composed, (1, 0, 2), (0, 2, 1))
        self.check_call((1, 2, 0), composed, (0, 2, 1), (1, 0, 2))
        self.check_call((2, 0, 1), composed, ROUND, ROUND)
        self.check_call((0, 1), composed, (1, 0), (1, 0))
        self.check_call((1, 2, 3, 4, 5, 6, 0, 7), composed, tuple(range(8)), (1, 2, 3, 4, 5, 6, 0, 7))
        for first in permutations(range(4)):
            for second in permutations(range(4)):
                self.assertEqual(composed(first, second), then(first, second))

    def test_inverse(self):
        self.check_call((2, 0, 1), inverse, ROUND)
        self.check_call((0, 1), inverse, (0, 1))
        self.check_call((7, 0, 1, 2, 3, 4, 5, 6), inverse, (1, 2, 3, 4, 5, 6, 7, 0))
        for change in permutations(range(4)):
            self.assertEqual(composed(change, inverse(change)), (0, 1, 2, 3))
            self.assertEqual(composed(inverse(change), change), (0, 1, 2, 3))

    def test_order_of(self):
        wanted = {
            (0, 1): 1,
            (1, 0): 2,
            (0, 1, 2): 1,
            (1, 2, 0): 3,
            (2, 0, 1): 3,
            (0, 1, 2, 3, 4, 5, 6, 7): 1,
            (1, 2, 3, 4, 5, 6, 7, 0): 8,
            (1, 0, 3, 4, 2, 5, 6, 7): 6,
            (1, 2, 0, 4, 5, 6, 7, 3): 15,
            (1, 0, 3, 4, 5, 2, 6, 7): 4,
            (1, 0, 3, 4, 5, 6, 7, 2): 6,
            (1, 2, 3, 0, 5, 6, 7, 4): 4,
            (0, 2, 3, 1, 5, 6, 7, 4): 12,
        }
        for change, order in wanted.items():
            self.check_call(order, order_of, change)

    def test_order_of_the_example(self):
        told = [order_of(change) for change in all_changes(3, [ROUND])]
        self.assertEqual(told, [1, 3, 3])

    def test_exactly_after_the_multiples_has_it_moved_nothing(self):
        for change in permutations(range(5)):
            order = order_of(change)
            made = tuple(range(5))
            for times in range(1, 14):
                made = then(made, change)
                self.assertEqual(made == tuple(range(5)), times % order == 0)


class OrbitsTest(CallCase):
    def test_examples_of_the_document(self):
        self.check_call(((0, 1, 2),), symbol_orbits, all_changes(3, [ROUND]))
        changes = all_changes(4, [(1, 0, 2, 3)])
        self.check_call(((0, 1), (2,), (3,)), symbol_orbits, changes)
        self.check_call(changes, kept_by, changes, 2)
        self.check_call(changes, kept_by, changes, 3)
        self.check_call(((0, 1, 2, 3),), kept_by, changes, 0)
        self.check_call(((0, 1, 2, 3),), kept_by, changes, 1)

    def test_orbits(self):
        wanted = [
            (2, [], ((0,), (1,))),
            (2, [(1, 0)], ((0, 1),)),
            (4, [(2, 3, 0, 1)], ((0, 2), (1, 3))),
            (5, [(4, 2, 1, 3, 0)], ((0, 4), (1, 2), (3,))),
            (6, [(0, 5, 4, 3, 1, 2)], ((0,), (1, 2, 4, 5), (3,))),
            (8, [(7, 6, 5, 4, 3, 2, 1, 0)], ((0, 7), (1, 6), (2, 5), (3, 4))),
            (8, MAKE_24_OF_8, ((0, 1, 2), (3, 4, 5, 6), (7,))),
            (8, [], tuple((symbol,) for symbol in range(8))),
        ]
        for symbols, given, orbits in wanted:
            self.check_call(orbits, symbol_orbits, all_changes(symbols, given))

    def test_kept_by_in_order(self):
        changes = all_changes(4, [(1, 0, 2, 3), (1, 2, 3, 0)])
        for symbol in range(4):
            wanted = tuple(change for change in permutations(range(4)) if change[symbol] == symbol)
            self.check_call(wanted, kept_by, changes, symbol)

    def test_no_symbol(self):
        for symbols, given in ((2, [(1, 0)]), (4, [(1, 0, 2, 3)]), (8, []), (8, MAKE_24_OF_8)):
            changes = all_changes(symbols, given)
            for symbol in (-symbols - 1, -symbols, -2, -1, symbols, symbols + 1, 10 ** 30):
                self.check_error(NoSymbol, {}, kept_by, changes, symbol)

    def test_orbits_and_those_that_leave_a_symbol(self):
        for symbols, given in some_given():
            changes = all_changes(symbols, given)
            orbits = symbol_orbits(changes)
            self.assertEqual(sorted(sum(orbits, ())), list(range(symbols)))
            self.assertEqual(list(orbits), sorted(orbits))
            for orbit in orbits:
                for symbol in orbit:
                    reached = sorted({change[symbol] for change in changes})
                    self.assertEqual(list(orbit), reached)
                    kept = kept_by(changes, symbol)
                    self.assertEqual(len(changes), len(orbit) * len(kept))

    def test_what_was_passed_may_be_changed_afterwards(self):
        changes = [[0, 1, 2], [1, 0, 2]]
        kept = kept_by(changes, 2)
        orbits = symbol_orbits(changes)
        changes[1][2] = 0
        changes.clear()
        self.assertEqual(kept, ((0, 1, 2), (1, 0, 2)))
        self.assertEqual(orbits, ((0, 1), (2,)))


if __name__ == "__main__":
    unittest.main()
