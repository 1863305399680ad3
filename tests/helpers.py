"""What several test files share: calls with lists and tuples, and ways to look at values."""

import unittest
from itertools import combinations, product

from moveseen.changes import all_changes, symbol_orbits
from moveseen.families import Family

# All changes of groups of many kinds: one change alone, one orbit and several, free ones and others.
GROUPS = [
    all_changes(symbols, given)
    for symbols, given in (
        (2, []),
        (2, [(1, 0)]),
        (3, []),
        (3, [(1, 2, 0)]),
        (3, [(1, 0, 2), (0, 2, 1)]),
        (4, [(1, 0, 2, 3)]),
        (4, [(1, 0, 3, 2)]),
        (4, [(1, 0, 3, 2), (2, 3, 0, 1)]),
        (4, [(1, 0, 2, 3), (0, 1, 3, 2)]),
        (4, [(1, 0, 2, 3), (1, 2, 3, 0)]),
        (5, [(4, 1, 3, 2, 0)]),
        (5, [(1, 2, 3, 4, 0), (0, 2, 4, 1, 3)]),
        (6, [(1, 2, 0, 4, 5, 3), (1, 0, 2, 4, 3, 5)]),
        (8, [(7, 1, 2, 3, 4, 5, 6, 0), (0, 6, 2, 3, 4, 5, 1, 7), (0, 1, 5, 3, 4, 2, 6, 7)]),
    )
]

# Families in which all inputs, all wirings or all strategies can be tried: symbols, positions, outputs,
# given changes, constants. Those with at most one source, or without outputs, stand at the end.
SMALL_FAMILIES = [
    Family(*parts)
    for parts in (
        (2, 2, 1, [], []),
        (2, 3, 1, [], []),
        (2, 2, 2, [], [1]),
        (2, 2, 2, [], [0, 1]),
        (2, 2, 2, [(1, 0)], []),
        (2, 1, 2, [(1, 0)], [0, 1]),
        (2, 2, 1, [(1, 0)], [0, 1]),
        (3, 1, 1, [(1, 0, 2)], []),
        (3, 2, 1, [(1, 0, 2)], [2]),
        (3, 2, 1, [(1, 0, 2)], [0, 1]),
        (3, 1, 2, [(1, 2, 0)], []),
        (3, 2, 1, [(1, 2, 0)], [0, 1, 2]),
        (3, 1, 1, [(1, 0, 2), (0, 2, 1)], []),
        (4, 1, 2, [(1, 0, 3, 2)], [2, 3]),
        (4, 2, 1, [(1, 0, 2, 3)], []),
        (4, 2, 1, [(1, 0, 2, 3)], [2]),
        (2, 5, 1, [], []),
        (2, 0, 2, [], [0, 1]),
        (3, 0, 1, [(1, 0, 2)], [0, 1, 2]),
        (2, 1, 2, [], []),
        (2, 0, 2, [], [1]),
        (2, 0, 2, [], []),
        (2, 2, 0, [(1, 0)], [0, 1]),
        (3, 0, 0, [], []),
    )
]

FAMILY_ATTRIBUTES = ("symbols", "positions", "outputs", "given", "changes", "constants", "sources")


def rows_as(value, outer, inner):
    """A row with `outer` as its kind, and all rows within it with `inner` as theirs."""
    if not isinstance(value, (list, tuple)):
        return value
    return outer(rows_as(part, inner, inner) for part in value)


def look_of(value):
    """All that can be seen of a value, with the kinds of its rows."""
    if isinstance(value, Family):
        return repr([getattr(value, name) for name in FAMILY_ATTRIBUTES])
    if isinstance(value, (list, tuple)):
        return type(value).__name__, [look_of(part) for part in value]
    return repr(value)


def has_only_tuples(value):
    if isinstance(value, tuple):
        return all(has_only_tuples(part) for part in value)
    return value is None or type(value) in (int, str, bool)


def closed_constants(changes):
    """All rows of constants of which the changes make nothing but these."""
    orbits = symbol_orbits(changes)
    for many in range(len(orbits) + 1):
        for taken in combinations(orbits, many):
            yield tuple(sorted(symbol for orbit in taken for symbol in orbit))


def orbits_by_hand(changes, length):
    """All orbits of rows of a length, each ascending, in the order of their first rows."""
    orbits = []
    met = set()
    for row in product(range(len(changes[0])), repeat=length):
        if row not in met:
            orbit = {tuple(change[symbol] for symbol in row) for change in changes}
            met |= orbit
            orbits.append(sorted(orbit))
    return orbits


def usable_by_hand(changes, constants, length):
    """All usable rows of a length, in order."""
    free = [orbit[0] for orbit in orbits_by_hand(changes, length) if len(orbit) == len(changes)]
    return [row for row in free if not any(row == (constant,) * length for constant in constants)]


def shown_by_hand(family, source, given):
    """The symbol that an output with a source shows for an input."""
    if isinstance(source, int):
        return source
    return family.changes[source[1]][given[source[0]]]


def column_by_hand(family, inputs, source):
    return tuple(shown_by_hand(family, source, given) for given in inputs)


def gives_by_hand(family, wiring, inputs):
    """What a wiring gives for each of some inputs."""
    return tuple(tuple(shown_by_hand(family, source, given) for source in wiring) for given in inputs)


def all_wirings(family):
    """All wirings of a family, in order."""
    return list(product(family.sources, repeat=family.outputs))


def all_inputs(family, many, most=5000):
    """All rows of so many inputs; none if they are more than so many."""
    if family.symbols ** (family.positions * many) > most:
        return []
    return list(product(product(range(family.symbols), repeat=family.positions), repeat=many))


def determine_by_hand(family, inputs):
    """True if all wirings give different outputs for some inputs."""
    wirings = all_wirings(family)
    return len({gives_by_hand(family, wiring, inputs) for wiring in wirings}) == len(wirings)


def check_by_hand(family, wiring, inputs):
    """True if no other wiring gives the same for some inputs."""
    wanted = gives_by_hand(family, wiring, inputs)
    others = [other for other in all_wirings(family) if other != wiring]
    return all(gives_by_hand(family, other, inputs) != wanted for other in others)


class CallCase(unittest.TestCase):
    """Calls are made with tuples, with lists, and with both mixed; arguments must stay the same."""

    def kinds_of(self, arguments):
        for outer in (tuple, list):
            for inner in (tuple, list):
                yield [rows_as(argument, outer, inner) for argument in arguments]

    def check_call(self, wanted, function, *arguments):
        for row in self.kinds_of(arguments):
            before = look_of(row)
            with self.subTest(function=function.__name__, arguments=before):
                told = function(*row)
                # Looks are compared, too, as True and 1 are the same for Python.
                self.assertEqual(told, wanted)
                self.assertEqual(look_of(told), look_of(wanted))
                self.assertTrue(has_only_tuples(told), told)
                self.assertEqual(look_of(row), before)

    def check_error(self, kind, attributes, function, *arguments):
        for row in self.kinds_of(arguments):
            before = look_of(row)
            with self.subTest(function=function.__name__, arguments=before):
                with self.assertRaises(kind) as caught:
                    function(*row)
                self.assertIs(type(caught.exception), kind)
                for name, wanted in attributes.items():
                    self.assertEqual(getattr(caught.exception, name), wanted)
                self.assertEqual(look_of(row), before)
