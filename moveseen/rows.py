"""Rows of symbols: how changes move them, their orbits, and the rows and columns that inputs give."""

from moveseen.errors import MoveError
from moveseen.families import check_source, settled_inputs, symbol_shown


class BadRow(MoveError):
    """The index of the first element of a row that is no symbol."""

    def __init__(self, place):
        self.place = place


def moved(row, change):
    """What one change makes of a row."""
    check_row(row, len(change))
    return _moved(row, change)


def orbit_of(changes, row):
    """The rows that the changes make of a row, ascending."""
    check_row(row, len(changes[0]))
    return tuple(sorted({_moved(row, change) for change in changes}))


def first_row(changes, row):
    """The first row of the orbit of a row."""
    return orbit_of(changes, row)[0]


def is_free(changes, row):
    """True if the orbit of a row has as many rows as there are changes."""
    return len(orbit_of(changes, row)) == len(changes)


def is_usable(changes, constants, row):
    """True if a row is the first one of a free orbit, and not one constant repeated."""
    orbit = orbit_of(changes, row)
    if len(orbit) < len(changes) or orbit[0] != tuple(row):
        return False
    # So the empty row is a constant repeated as soon as there is any constant.
    return orbit[0] not in [(constant,) * len(row) for constant in constants]


def rows_of(family, inputs):
    """The tuple of the rows that some inputs give the positions."""
    settled = settled_inputs(family, inputs)
    return tuple(tuple(given[position] for given in settled) for position in range(family.positions))


def column_of(family, inputs, source):
    """The row of the symbols that an output with this source shows, one for each input."""
    settled = settled_inputs(family, inputs)
    return column_shown(family, settled, check_source(family, source))


def same_column(family, inputs, source):
    """The tuple of all sources with the column of this one, in their order."""
    settled = settled_inputs(family, inputs)
    wanted = column_shown(family, settled, check_source(family, source))
    return tuple(sources_by_column(family, settled)[wanted])


def column_shown(family, inputs, source):
    """As column_of tells, of inputs and a source that were checked before."""
    return tuple(symbol_shown(family, source, given) for given in inputs)


def sources_by_column(family, inputs):
    """A dict of the columns of all sources, each with the list of its sources in order.

    The inputs were checked before. The columns stand in the order of their first sources.
    """
    alike = {}
    for source in family.sources:
        alike.setdefault(column_shown(family, inputs, source), []).append(source)
    return alike


def check_row(row, symbols):
    """Raises BadRow if an element of a row is none of so many symbols."""
    for place, symbol in enumerate(row):
        if not 0 <= symbol < symbols:
            raise BadRow(place)


def _moved(row, change):
    return tuple(change[symbol] for symbol in row)
