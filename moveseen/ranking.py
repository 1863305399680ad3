"""Usable rows by their indices, and indices of usable rows, without listing any others."""

from moveseen.counting import (
    barred_constants,
    branches_of,
    capacity,
    check_length,
    free_tables,
    settled_changes,
)
from moveseen.errors import MoveError
from moveseen.rows import check_row, is_usable


class NoRow(MoveError):
    """An index that no usable row has."""


def usable_row(changes, constants, length, index):
    """The usable row of a length with an index."""
    many = capacity(changes, constants, length)
    if not 0 <= index < many:
        raise NoRow(f"there is no usable row {index}")
    branches = branches_of(changes)
    tables = free_tables(branches, length)
    group = settled_changes(changes)
    barred = barred_constants(changes, constants)
    row = []
    left = index
    while len(row) < length:
        table = tables[length - len(row) - 1]
        symbol = _symbol_at(branches[group], table, barred, left)
        left -= _rows_ahead(branches[group], table, barred, symbol)
        row.append(symbol)
        group = branches[group][symbol]
        barred = _still_barred(barred, symbol)
    return tuple(row)


def usable_index(changes, constants, row):
    """The index of a row among the usable rows of its length; None if it is not usable."""
    check_row(row, len(changes[0]))
    check_length(len(row))
    if not is_usable(changes, constants, row):
        return None
    branches = branches_of(changes)
    tables = free_tables(branches, len(row))
    group = settled_changes(changes)
    barred = barred_constants(changes, constants)
    index = 0
    for place, symbol in enumerate(row):
        table = tables[len(row) - place - 1]
        index += _rows_ahead(branches[group], table, barred, symbol)
        group = branches[group][symbol]
        barred = _still_barred(barred, symbol)
    return index


def first_rows(changes, length, many):
    """The list of the first ones of those rows of a length that come first in their orbits, so many at most."""
    branches = branches_of(changes)
    found = [((), settled_changes(changes))]
    for _ in range(length):
        longer = [((*row, symbol), branches[group][symbol]) for row, group in found for symbol in branches[group]]
        # Each of these goes on to some row, so those behind the first so many are never needed.
        found = longer[:many]
    return [row for row, _ in found]


def _rows_behind(branch, table, barred, symbol):
    """How many usable rows go on with a symbol."""
    # A constant that is still barred makes one row of these if it is repeated to the end.
    return table[branch[symbol]] - barred.count(symbol)


def _rows_ahead(branch, table, barred, symbol):
    """How many usable rows go on with a lesser symbol."""
    return sum([_rows_behind(branch, table, barred, other) for other in branch if other < symbol])


def _symbol_at(branch, table, barred, index):
    """The symbol with which the row with an index goes on."""
    # Some row has the index, so the last symbol with no more rows ahead of it is the one.
    return [symbol for symbol in branch if _rows_ahead(branch, table, barred, symbol) <= index][-1]


def _still_barred(barred, symbol):
    return tuple(constant for constant in barred if constant == symbol)
