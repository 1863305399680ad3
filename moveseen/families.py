"""Families with their sources, and the checks of wirings, inputs and outputs."""

from moveseen.changes import LEAST_SYMBOLS, MOST_SYMBOLS, all_changes
from moveseen.errors import MoveError

MOST_POSITIONS = 12
MOST_OUTPUTS = 12
MOST_INPUTS = 12


class BadFamily(MoveError):
    """What is wrong with a family."""

    def __init__(self, reason):
        self.reason = reason


class BadWiring(MoveError):
    """The output of a wrong source (None for the whole wiring), and what is wrong."""

    def __init__(self, output, reason):
        self.output = output
        self.reason = reason


class BadInputs(MoveError):
    """The number of a wrong input (None for all of them together), and what is wrong."""

    def __init__(self, number, reason):
        self.number = number
        self.reason = reason


class BadOutputs(MoveError):
    """The number of a wrong row (None for all of them together), and what is wrong."""

    def __init__(self, number, reason):
        self.number = number
        self.reason = reason


class NoSource(MoveError):
    """What is no source of the family."""


class Family:
    """Symbols with all their changes, positions, outputs, constants, and all sources."""

    def __init__(self, symbols, positions, outputs, changes, constants):
        _check_sizes(symbols, positions, outputs)
        made = all_changes(symbols, changes)
        _check_constants(symbols, made, constants)
        self.symbols = symbols
        self.positions = positions
        self.outputs = outputs
        self.given = tuple(tuple(change) for change in changes)
        self.changes = made
        self.constants = tuple(constants)
        pairs = [(position, change) for position in range(positions) for change in range(len(made))]
        self.sources = (*pairs, *constants)

    def number_of(self, source):
        """The number of a source in the order of all sources."""
        if source_fault(self, source) is not None:
            raise NoSource("the family has no such source")
        if isinstance(source, (list, tuple)):
            position, change = source
            return position * len(self.changes) + change
        return self.positions * len(self.changes) + self.constants.index(source)


def check_source(family, source):
    """The source as it stands among the sources of the family."""
    return family.sources[family.number_of(source)]


def source_fault(family, source):
    """The reason for which something is no source of a family, or of a wide plan; None if it is one."""
    if not isinstance(source, (list, tuple)):
        return None if source in family.constants else "constant"
    if len(source) != 2 or not 0 <= source[0] < family.positions:
        return "position"
    if not 0 <= source[1] < len(family.changes):
        return "change"
    return None


def shown(family, source, given):
    """The symbol that an output with this source shows for an input."""
    settled = check_source(family, source)
    return symbol_shown(family, settled, settled_inputs(family, [given])[0])


def symbol_shown(family, source, given):
    """As shown tells, of a source and an input that were checked before."""
    if isinstance(source, int):
        return source
    position, change = source
    return family.changes[change][given[position]]


def settled_wiring(family, wiring):
    """The wiring as a tuple of sources."""
    if len(wiring) != family.outputs:
        raise BadWiring(None, "length")
    for output, source in enumerate(wiring):
        reason = source_fault(family, source)
        if reason is not None:
            raise BadWiring(output, reason)
    return tuple(check_source(family, source) for source in wiring)


def settled_inputs(family, inputs):
    """The inputs as a tuple of tuples."""
    if len(inputs) > MOST_INPUTS:
        raise BadInputs(None, "many")
    number, reason = _first_fault(inputs, family.positions, family.symbols)
    if reason is not None:
        raise BadInputs(number, reason)
    return tuple(tuple(row) for row in inputs)


def settled_outputs(family, inputs, outputs):
    """The rows of symbols that the outputs show, one for each input, as a tuple of tuples."""
    if len(outputs) != len(inputs):
        raise BadOutputs(None, "many")
    number, reason = _first_fault(outputs, family.outputs, family.symbols)
    if reason is not None:
        raise BadOutputs(number, reason)
    return tuple(tuple(row) for row in outputs)


def _check_sizes(symbols, positions, outputs):
    if not LEAST_SYMBOLS <= symbols <= MOST_SYMBOLS:
        raise BadFamily("symbols")
    if not 0 <= positions <= MOST_POSITIONS:
        raise BadFamily("positions")
    if not 0 <= outputs <= MOST_OUTPUTS:
        raise BadFamily("outputs")


def _check_constants(symbols, changes, constants):
    proper = [symbol for symbol in range(symbols) if symbol in constants]
    if list(constants) != proper:
        raise BadFamily("constants")
    if any(change[constant] not in constants for change in changes for constant in constants):
        raise BadFamily("closed")


def _first_fault(rows, length, symbols):
    """The number of the first wrong row and what is wrong with it; twice None if none is."""
    for number, row in enumerate(rows):
        if len(row) != length:
            return number, "length"
        if any(not 0 <= symbol < symbols for symbol in row):
            return number, "symbol"
    return None, None
