"""How many orbits of rows, free orbits and usable rows there are (part D)."""

from moveseen.changes import all_changes, symbol_orbits
from moveseen.counting import BadCount, BadLength, capacity, free_count, least_length, orbit_count
from tests.helpers import GROUPS, CallCase, closed_constants, orbits_by_hand, usable_by_hand

MOST = 10 ** 60
TWO = all_changes(2, [(1, 0)])
FOUR = all_changes(4, [(1, 0, 2, 3)])
ALONE = all_changes(2, [])
EIGHT = all_changes(8, [])
TURNS = all_changes(3, [(1, 2, 0)])
SIX = all_changes(3, [(1, 0, 2), (0, 2, 1)])
PAIRS = all_changes(4, [(1, 0, 3, 2)])
ALL_OF_FOUR = all_changes(4, [(1, 0, 2, 3), (1, 2, 3, 0)])


def short_lengths(changes):
    return [length for length in range(6) if len(changes[0]) ** length <= 1300]


def count_by_fixed_symbols(changes, length):
    """The number of orbits by [D3]."""
    fixed = [sum(change[symbol] == symbol for symbol in range(len(change))) for change in changes]
    return sum(many ** length for many in fixed) // len(changes)


class OrbitCountTest(CallCase):
    def test_examples_of_the_document(self):
        self.check_call(10, orbit_count, FOUR, 2)
        self.check_call(6, free_count, FOUR, 2)
        self.check_call(4, orbit_count, TWO, 3)

    def test_rows_counted_one_by_one(self):
        for changes in GROUPS:
            for length in short_lengths(changes):
                orbits = orbits_by_hand(changes, length)
                free = [orbit for orbit in orbits if len(orbit) == len(changes)]
                self.check_call(len(orbits), orbit_count, changes, length)
                self.check_call(len(free), free_count, changes, length)

    def test_length_0(self):
        for changes in GROUPS:
            self.check_call(1, orbit_count, changes, 0)
            self.check_call(1 if len(changes) == 1 else 0, free_count, changes, 0)

    def test_length_1(self):
        for changes in GROUPS:
            orbits = symbol_orbits(changes)
            free = [orbit for orbit in orbits if len(orbit) == len(changes)]
            self.check_call(len(orbits), orbit_count, changes, 1)
            self.check_call(len(free), free_count, changes, 1)

    def test_orbits_of_long_rows(self):
        for changes in GROUPS:
            for length in (6, 40, 299, 300):
                self.check_call(count_by_fixed_symbols(changes, length), orbit_count, changes, length)

    def test_free_orbits_of_long_rows(self):
        for length in (6, 40, 299, 300):
            self.check_call(8 ** length, free_count, EIGHT, length)
            self.check_call(2 ** (length - 1), free_count, TWO, length)
            self.check_call(3 ** (length - 1), free_count, TURNS, length)
            self.check_call((4 ** length - 2 ** length) // 2, free_count, FOUR, length)
            # Under all changes a row is free if no two symbols are missing.
            self.check_call((3 ** length - 3) // 6, free_count, SIX, length)
            wanted = (4 ** length - 6 * (2 ** length - 2) - 4) // 24
            self.check_call(wanted, free_count, ALL_OF_FOUR, length)

    def test_one_change_alone(self):
        for length in (0, 1, 7, 300):
            self.check_call(2 ** length, orbit_count, ALONE, length)
            self.check_call(2 ** length, free_count, ALONE, length)
            self.check_call(8 ** length, orbit_count, EIGHT, length)


class CapacityTest(CallCase):
    def test_examples_of_the_document(self):
        self.check_call(1, capacity, FOUR, (), 1)
        self.check_call(3, capacity, TWO, (0, 1), 3)

    def test_rows_counted_one_by_one(self):
        for changes in GROUPS:
            for constants in closed_constants(changes):
                for length in short_lengths(changes):
                    wanted = len(usable_by_hand(changes, constants, length))
                    self.assertEqual(capacity(changes, constants, length), wanted)

    def test_length_0(self):
        self.check_call(1, capacity, ALONE, (), 0)
        self.check_call(0, capacity, ALONE, (0,), 0)
        self.check_call(0, capacity, ALONE, (0, 1), 0)
        self.check_call(0, capacity, TWO, (), 0)
        self.check_call(0, capacity, TWO, (0, 1), 0)
        self.check_call(0, capacity, FOUR, (2,), 0)

    def test_length_1(self):
        self.check_call(2, capacity, ALONE, (), 1)
        self.check_call(1, capacity, ALONE, (1,), 1)
        self.check_call(0, capacity, ALONE, (0, 1), 1)
        self.check_call(1, capacity, TWO, (), 1)
        self.check_call(0, capacity, TWO, (0, 1), 1)
        self.check_call(1, capacity, FOUR, (2, 3), 1)
        self.check_call(0, capacity, FOUR, (0, 1, 2), 1)

    def test_constants_of_several_orbits(self):
        for length in (1, 2, 300):
            free = 4 ** length // 2
            self.check_call(free, capacity, PAIRS, (), length)
            self.check_call(free - 1, capacity, PAIRS, (2, 3), length)
            self.check_call(free - 2, capacity, PAIRS, (0, 1, 2, 3), length)
            # Constants that a change leaves where they are have no free orbit that would be lost.
            free = (4 ** length - 2 ** length) // 2
            self.check_call(free, capacity, FOUR, (2, 3), length)
            self.check_call(free - 1, capacity, FOUR, (0, 1, 3), length)

    def test_length_300(self):
        self.check_call(8 ** 300 - 8, capacity, EIGHT, (0, 1, 2, 3, 4, 5, 6, 7), 300)
        self.check_call(2 ** 299 - 1, capacity, TWO, (0, 1), 300)
        self.check_call((3 ** 300 - 3) // 6, capacity, SIX, (0, 1, 2), 300)

    def test_one_more_symbol(self):
        for changes in GROUPS:
            symbols = len(changes[0])
            for constants in list(closed_constants(changes))[:4]:
                told = [capacity(changes, constants, length) for length in range(1, 12)]
                self.assertTrue(all(more >= symbols * few for few, more in zip(told, told[1:])))
                self.assertGreaterEqual(capacity(changes, constants, symbols), 1)


class BadLengthTest(CallCase):
    def test_bad_length(self):
        for changes in (TWO, ALONE, ALL_OF_FOUR):
            for length in (-1, -300, 301, 10 ** 30):
                self.check_error(BadLength, {}, orbit_count, changes, length)
                self.check_error(BadLength, {}, free_count, changes, length)
                self.check_error(BadLength, {}, capacity, changes, (), length)
                self.check_error(BadLength, {}, capacity, changes, tuple(range(len(changes[0]))), length)


class LeastLengthTest(CallCase):
    def test_examples_of_the_document(self):
        self.check_call(3, least_length, TWO, (0, 1), 3)
        self.check_call(201, least_length, TWO, (0, 1), MOST)

    def test_no_rows_and_one(self):
        for changes in GROUPS:
            for constants in list(closed_constants(changes))[:4]:
                self.check_call(1, least_length, changes, constants, 0)
                told = [length for length in range(1, 9) if capacity(changes, constants, length) >= 1]
                self.check_call(told[0], least_length, changes, constants, 1)
        self.check_call(1, least_length, ALONE, (), 1)
        self.check_call(2, least_length, ALONE, (0, 1), 1)
        self.check_call(3, least_length, ALL_OF_FOUR, (), 1)

    def test_each_number_up_to_some(self):
        for changes in (TWO, FOUR, SIX, PAIRS, ALONE):
            for constants in closed_constants(changes):
                told = [capacity(changes, constants, length) for length in range(12)]
                for many in range(40):
                    wanted = min(length for length in range(1, 12) if told[length] >= many)
                    self.assertEqual(least_length(changes, constants, many), wanted)

    def test_just_a_capacity_and_one_more(self):
        for changes in GROUPS:
            for constants in list(closed_constants(changes))[:4]:
                for length in (8, 9, 21):
                    many = capacity(changes, constants, length)
                    self.check_call(length, least_length, changes, constants, many)
                    self.check_call(length + 1, least_length, changes, constants, many + 1)
                    self.check_call(length, least_length, changes, constants, many - 1)

    def test_the_greatest_number(self):
        for changes in GROUPS:
            constants = tuple(range(len(changes[0])))
            length = least_length(changes, constants, MOST)
            self.assertGreaterEqual(capacity(changes, constants, length), MOST)
            self.assertLess(capacity(changes, constants, length - 1), MOST)
            self.check_call(length, least_length, changes, constants, MOST)
        # 3 ** 125 and 2 ** 199 are below 10 ** 60, 3 ** 126 and 2 ** 200 are not.
        self.check_call(127, least_length, TURNS, (), MOST)
        self.check_call(200, least_length, ALONE, (), MOST)

    def test_bad_count(self):
        for changes in (TWO, ALONE, ALL_OF_FOUR):
            for many in (-1, -MOST, MOST + 1, 10 ** 80):
                self.check_error(BadCount, {}, least_length, changes, (), many)
                self.check_error(BadCount, {}, least_length, changes, tuple(range(len(changes[0]))), many)
