"""Wide plans: plans for up to 10 ** 60 positions, told without listing rows."""

from moveseen.counting import least_length
from moveseen.errors import MoveError
from moveseen.families import Family, NoSource, source_fault
from moveseen.ranking import usable_index, usable_row
from moveseen.rows import first_row, moved

MOST_WIDE = 10 ** 60


class BadPositions(MoveError):
    """A number of positions below 0 or above 10 ** 60."""


class NoPosition(MoveError):
    """A position that the plan has not."""


class NoNumber(MoveError):
    """A number that no input of the plan has."""


class BadColumn(MoveError):
    """What is no column of the plan's length, or has a symbol that there is not."""


class WidePlan:
    """The plan of a family with an output and perhaps very many positions."""

    def __init__(self, symbols, changes, constants, positions):
        # A family checks them, but cannot have so many positions itself.
        family = Family(symbols, 0, 1, changes, constants)
        if not 0 <= positions <= MOST_WIDE:
            raise BadPositions(f"a plan has no {positions} positions")
        self.symbols = symbols
        self.changes = family.changes
        self.constants = family.constants
        self.positions = positions
        self.length = _plan_length(family.changes, family.constants, positions)

    def row(self, position):
        """The row of a position."""
        if not 0 <= position < self.positions:
            raise NoPosition(f"there is no position {position}")
        return usable_row(self.changes, self.constants, self.length, position)

    def input_symbol(self, number, position):
        """The symbol that the input with a number has at a position."""
        if not 0 <= number < self.length:
            raise NoNumber(f"the plan has no number {number}")
        return self.row(position)[number]

    def column(self, source):
        """The column of a source under the inputs of the plan."""
        if source_fault(self, source) is not None:
            raise NoSource("the plan has no such source")
        if isinstance(source, int):
            return (source,) * self.length
        position, number = source
        return moved(self.row(position), self.changes[number])

    def source_of(self, column):
        """The source that has a column; None if none has."""
        wanted = tuple(column)
        if len(wanted) != self.length or any(not 0 <= symbol < self.symbols for symbol in wanted):
            raise BadColumn("that is no column of this plan")
        for constant in self.constants:
            if wanted == (constant,) * self.length:
                return constant
        first = first_row(self.changes, wanted)
        position = usable_index(self.changes, self.constants, first)
        if position is None or position >= self.positions:
            return None
        # The orbit of a usable row is free, so one change alone moves it to the column.
        return position, [moved(first, change) for change in self.changes].index(wanted)


def _plan_length(changes, constants, positions):
    if positions * len(changes) + len(constants) <= 1:
        return 0
    return least_length(changes, constants, positions)
