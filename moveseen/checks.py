"""Checks: inputs for which no other wiring gives the same as one wiring."""

from moveseen.changes import symbol_orbits
from moveseen.counting import least_length, orbit_count
from moveseen.families import settled_inputs, settled_wiring
from moveseen.plans import has_no_choice, inputs_with_rows
from moveseen.ranking import first_rows, usable_row
from moveseen.rows import column_shown, sources_by_column


def used(family, wiring):
    """The pair of the positions and of the constants that a wiring uses, both ascending."""
    settled = settled_wiring(family, wiring)
    positions = sorted({source[0] for source in settled if isinstance(source, tuple)})
    constants = sorted({source for source in settled if isinstance(source, int)})
    return tuple(positions), tuple(constants)


def inputs_that_check(family, wiring):
    """The tuple of the fewest inputs that check a wiring."""
    positions, constants = used(family, wiring)
    if has_no_choice(family):
        return ()
    orbits = orbits_with(family.changes, constants)
    length = _check_length(family, len(positions), len(orbits))
    rows = _check_rows(family, positions, orbits, length)
    return inputs_with_rows(rows, length)


def confused_with(family, wiring, inputs):
    """The first other wiring that gives the same for all inputs; None if there is none."""
    settled = settled_wiring(family, wiring)
    given = settled_inputs(family, inputs)
    alike = sources_by_column(family, given)
    choices = [alike[column_shown(family, given, source)] for source in settled]
    first = tuple(same[0] for same in choices)
    return first if first != settled else _second_wiring(choices)


def checks(family, wiring, inputs):
    """True if no other wiring gives the same for all inputs."""
    return confused_with(family, wiring, inputs) is None


def orbits_with(changes, constants):
    """The list of those orbits of symbols that have one of these constants."""
    return [orbit for orbit in symbol_orbits(changes) if any(symbol in constants for symbol in orbit)]


def _check_length(family, many, barred):
    """How many inputs check a wiring that uses so many positions, and constants of so many orbits."""
    length = least_length(family.changes, family.constants, many)
    # For a greater length there are more orbits, and not fewer usable rows.
    while many < family.positions and orbit_count(family.changes, length) - barred <= many:
        length += 1
    return length


def _check_rows(family, positions, orbits, length):
    """The list of the rows of all positions, where these positions and orbits of constants are used."""
    changes = family.changes
    own = [usable_row(changes, family.constants, length, index) for index in range(len(positions))]
    taken = own + [(orbit[0],) * length for orbit in orbits]
    rows = [None] * family.positions
    if len(positions) < family.positions:
        # The length is such that one row more than those that are taken is left.
        others = [row for row in first_rows(changes, length, len(taken) + 1) if row not in taken]
        rows = [others[0]] * family.positions
    for position, row in zip(positions, own):
        rows[position] = row
    return rows


def _second_wiring(choices):
    """The second one of the wirings with these choices at the outputs; None if there is one alone."""
    many = [output for output, same in enumerate(choices) if len(same) > 1]
    if not many:
        return None
    return tuple(same[1] if output == many[-1] else same[0] for output, same in enumerate(choices))
