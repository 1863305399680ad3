"""Families (part B): the errors of a family, its attributes and its sources."""

import unittest
from itertools import product

from moveseen.changes import BadChanges, all_changes
from moveseen.families import BadFamily, Family, NoSource, check_source
from tests.helpers import FAMILY_ATTRIBUTES, CallCase, has_only_tuples, look_of

MAKE_24 = [(1, 0, 2, 3), (1, 2, 3, 0)]

# Families with and without positions, outputs, changes and constants, and as great as may be.
FAMILIES = [
    (4, 3, 3, [(1, 0, 3, 2)], [2, 3]),
    (2, 0, 0, [], []),
    (2, 0, 1, [], [0, 1]),
    (2, 1, 0, [(1, 0)], []),
    (3, 2, 1, [(1, 2, 0)], [0, 1, 2]),
    (3, 2, 2, [(0, 1, 2), (0, 1, 2)], [1]),
    (8, 3, 1, [(1, 0, 2, 3, 4, 5, 6, 7), (0, 1, 2, 3, 4, 5, 7, 6)], [2, 4, 6, 7]),
    (4, 12, 12, MAKE_24, [0, 1, 2, 3]),
    (4, 12, 12, [], []),
]


def told_of(symbols, positions, outputs, changes, constants):
    """All attributes of a new family, so that calls can be compared by what they return."""
    family = Family(symbols, positions, outputs, changes, constants)
    return tuple(getattr(family, name) for name in FAMILY_ATTRIBUTES)


def sources_in_order(positions, changes, constants):
    pairs = [(position, number) for position in range(positions) for number in range(changes)]
    return (*pairs, *constants)


class FamilyTest(CallCase):
    def test_example_of_the_document(self):
        family = Family(4, 3, 3, [(1, 0, 3, 2)], [2, 3])
        self.assertEqual(family.symbols, 4)
        self.assertEqual(family.positions, 3)
        self.assertEqual(family.outputs, 3)
        self.assertEqual(family.given, ((1, 0, 3, 2),))
        self.assertEqual(family.changes, ((0, 1, 2, 3), (1, 0, 3, 2)))
        self.assertEqual(family.constants, (2, 3))
        wanted = ((0, 0), (0, 1), (1, 0), (1, 1), (2, 0), (2, 1), 2, 3)
        self.assertEqual(family.sources, wanted)

    def test_attributes(self):
        for symbols, positions, outputs, given, constants in FAMILIES:
            changes = all_changes(symbols, given)
            sources = sources_in_order(positions, len(changes), constants)
            wanted = (symbols, positions, outputs, tuple(given), changes, tuple(constants), sources)
            self.check_call(wanted, told_of, symbols, positions, outputs, given, constants)

    def test_attributes_are_of_tuples(self):
        family = Family(3, 2, 1, [[1, 0, 2], [0, 1, 2]], [2])
        for name in FAMILY_ATTRIBUTES:
            self.assertTrue(has_only_tuples(getattr(family, name)), name)

    def test_given_stay_as_they_are_given(self):
        given = ((0, 2, 1), (1, 0, 2), (0, 2, 1))
        family = Family(3, 1, 1, given, ())
        self.assertEqual(family.given, given)
        self.assertEqual(len(family.changes), 6)
        self.assertEqual(Family(3, 1, 1, ((0, 1, 2),), ()).given, ((0, 1, 2),))

    def test_least_and_most(self):
        self.assertEqual(Family(2, 0, 0, [], []).sources, ())
        family = Family(8, 12, 12, [], [0, 1, 2, 3, 4, 5, 6, 7])
        self.assertEqual((family.symbols, family.positions, family.outputs), (8, 12, 12))
        self.assertEqual(len(family.sources), 12 + 8)
        family = Family(4, 12, 12, MAKE_24, [0, 1, 2, 3])
        self.assertEqual(len(family.sources), 12 * 24 + 4)
        self.assertEqual(family.sources[-5:], ((11, 23), 0, 1, 2, 3))

    def test_what_was_passed_may_be_changed_afterwards(self):
        given = [[1, 0, 2], [0, 1, 2]]
        constants = [2]
        family = Family(3, 1, 1, given, constants)
        before = look_of(family)
        given[0][0] = 2
        given.pop()
        constants[0] = 0
        constants.append(1)
        self.assertEqual(look_of(family), before)
        self.assertEqual(family.number_of(2), 2)
        with self.assertRaises(NoSource):
            family.number_of(0)

    def test_families_are_apart(self):
        first = Family(3, 1, 1, [(1, 0, 2)], [2])
        before = look_of(first)
        Family(2, 2, 2, [(1, 0)], [])
        with self.assertRaises(BadFamily):
            Family(3, 1, 1, [(1, 0, 2)], [0])
        self.assertEqual(look_of(first), before)


class BadFamilyTest(CallCase):
    def check_bad(self, reason, *arguments):
        self.check_error(BadFamily, {"reason": reason}, Family, *arguments)

    def test_symbols(self):
        for symbols in (-1, 0, 1, 9, 10):
            self.check_bad("symbols", symbols, 1, 1, [], [])

    def test_positions(self):
        for positions in (-2, -1, 13, 14, 10 ** 30):
            self.check_bad("positions", 3, positions, 1, [], [])

    def test_outputs(self):
        for outputs in (-2, -1, 13, 14, 10 ** 30):
            self.check_bad("outputs", 3, 1, outputs, [], [])

    def test_changes(self):
        many = [(1, 0, 2, 3, 4), (1, 2, 3, 4, 0)]
        wrong = [
            (None, "given", 3, [(0, 1, 2)] * 4),
            (0, "length", 3, [(0, 1)]),
            (1, "symbol", 3, [(0, 1, 2), (0, 1, 3)]),
            (2, "twice", 3, [(0, 1, 2), (0, 1, 2), (0, 1, 1)]),
            (0, "twice", 3, [(1, 1, 1), (0, 1)]),
            (None, "many", 5, many),
        ]
        for number, reason, symbols, changes in wrong:
            wanted = {"number": number, "reason": reason}
            self.check_error(BadChanges, wanted, Family, symbols, 1, 1, changes, [])

    def test_constants(self):
        for constants in ((0, 0), (1, 0), (2, 1), (0, 2, 1), (0, 1, 1), (-1,), (3,), (-1, 0), (0, 3)):
            self.check_bad("constants", 3, 1, 1, [], constants)
        self.check_bad("constants", 3, 1, 1, [], (0, 1, 2, 3))
        self.check_bad("constants", 3, 1, 1, [], (0, 1, 2, 2))

    def test_closed(self):
        self.check_bad("closed", 3, 1, 1, [(1, 0, 2)], (0,))
        self.check_bad("closed", 3, 1, 1, [(1, 0, 2)], (1,))
        self.check_bad("closed", 3, 1, 1, [(1, 0, 2)], (1, 2))
        self.check_bad("closed", 3, 1, 1, [(1, 2, 0)], (0, 1))
        self.check_bad("closed", 4, 1, 1, [(0, 1, 2, 3), (0, 1, 3, 2)], (0, 2))
        self.check_bad("closed", 4, 1, 1, [(0, 1, 2, 3), (0, 1, 3, 2)], (1, 3))
        self.check_bad("closed", 4, 0, 0, [(1, 0, 2, 3), (0, 1, 2, 3), (0, 1, 3, 2)], (0, 1, 3))

    def test_constants_that_are_closed(self):
        for constants in ((), (0, 1), (2,), (3,), (2, 3), (0, 1, 2), (0, 1, 2, 3)):
            self.assertEqual(Family(4, 1, 1, [(1, 0, 2, 3)], constants).constants, constants)
        for constants in ((0, 1), (2, 3), (0, 1, 2, 3)):
            self.assertEqual(Family(4, 1, 1, [(1, 0, 3, 2)], constants).constants, constants)

    def test_exactly_the_closed_constants_are_taken(self):
        for given in ([], [(1, 0, 2, 3)], [(1, 0, 3, 2)], [(0, 2, 3, 1)], [(1, 0, 2, 3), (0, 1, 3, 2)]):
            for marks in product((False, True), repeat=4):
                constants = [symbol for symbol in range(4) if marks[symbol]]
                if all(change[symbol] in constants for change in given for symbol in constants):
                    self.assertEqual(Family(4, 1, 1, given, constants).constants, tuple(constants))
                else:
                    self.check_bad("closed", 4, 1, 1, given, constants)

    def test_order_of_the_errors(self):
        right = {"symbols": 3, "positions": 2, "outputs": 1, "changes": [(1, 2, 0)], "constants": []}
        wrong = [
            ("symbols", {"symbols": 9}),
            ("positions", {"positions": 13}),
            ("outputs", {"outputs": -1}),
            ("twice", {"changes": [(1, 1, 1)]}),
            ("constants", {"constants": [1, 0]}),
        ]
        for at, (reason, change) in enumerate(wrong):
            for marks in product((False, True), repeat=len(wrong) - at - 1):
                arguments = {**right, **change}
                for (_, other), marked in zip(wrong[at + 1:], marks):
                    arguments.update(other if marked else {})
                kind = BadChanges if reason == "twice" else BadFamily
                self.check_error(kind, {"reason": reason}, Family, *arguments.values())

    def test_closed_behind_all_else(self):
        self.check_bad("closed", 3, 2, 1, [(1, 2, 0)], [0, 1])
        self.check_bad("symbols", 1, 2, 1, [(1, 2, 0)], [0, 1])
        self.check_bad("positions", 3, -1, 1, [(1, 2, 0)], [0, 1])
        self.check_bad("outputs", 3, 2, 13, [(1, 2, 0)], [0, 1])
        self.check_bad("constants", 3, 2, 1, [(1, 2, 0)], [1, 0])
        self.check_bad("constants", 3, 2, 1, [(1, 2, 0)], [0, 1, 3])
        twice = {"number": 1, "reason": "twice"}
        self.check_error(BadChanges, twice, Family, 3, 2, 1, [(1, 2, 0), (0, 0, 1)], [0, 1])


class SourceTest(CallCase):
    def test_numbers_of_sources(self):
        for arguments in FAMILIES:
            family = Family(*arguments)
            for number, source in enumerate(family.sources):
                self.check_call(number, family.number_of, source)
                self.check_call(source, check_source, family, source)

    def test_a_source_as_a_list(self):
        family = Family(4, 3, 3, [(1, 0, 3, 2)], [2, 3])
        self.assertEqual(family.number_of([1, 1]), 3)
        self.assertEqual(check_source(family, [1, 1]), (1, 1))
        self.assertIsInstance(check_source(family, [1, 1]), tuple)
        self.assertEqual(family.number_of(2), 6)
        self.assertEqual(check_source(family, 3), 3)

    def check_none(self, family, source):
        self.check_error(NoSource, {}, family.number_of, source)
        self.check_error(NoSource, {}, check_source, family, source)

    def test_no_such_position(self):
        for arguments in FAMILIES:
            family = Family(*arguments)
            for position in (-family.positions - 1, -1, family.positions, family.positions + 1, 99):
                self.check_none(family, (position, 0))
                self.check_none(family, (position, len(family.changes) - 1))

    def test_no_such_change(self):
        for arguments in FAMILIES:
            family = Family(*arguments)
            many = len(family.changes)
            for position in range(family.positions):
                for change in (-many - 1, -many, -1, many, many + 1, 99):
                    self.check_none(family, (position, change))

    def test_neither_position_nor_change(self):
        family = Family(4, 3, 3, [(1, 0, 3, 2)], [2, 3])
        for source in ((-1, -1), (3, 2), (-1, 2), (3, -1), (-1, 3)):
            self.check_none(family, source)

    def test_no_such_constant(self):
        for arguments in FAMILIES:
            family = Family(*arguments)
            for constant in (-9, -2, -1, *range(family.symbols), family.symbols, 99):
                if constant not in family.constants:
                    self.check_none(family, constant)

    def test_an_error_changes_nothing(self):
        family = Family(4, 3, 3, [(1, 0, 3, 2)], [2, 3])
        self.check_none(family, (3, 0))
        self.check_none(family, 1)
        self.assertEqual([family.number_of(source) for source in family.sources], list(range(8)))


if __name__ == "__main__":
    unittest.main()
