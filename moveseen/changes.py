"""Changes of symbols: what can be made of some given ones, ways, orders and orbits."""

from moveseen.errors import MoveError

LEAST_SYMBOLS = 2
MOST_SYMBOLS = 8
MOST_GIVEN = 3
MOST_CHANGES = 24


class BadChanges(MoveError):
    """The number of a given change (None for all of them together), and what is wrong."""

    def __init__(self, number, reason):
        self.number = number
        self.reason = reason


class NoSymbol(MoveError):
    """A number that is no symbol."""


def all_changes(symbols, given):
    """The tuple of all changes that can be made of the given ones, in order."""
    return tuple(sorted(_first_ways(symbols, given)))


def way_to(symbols, given, change):
    """The first way to a change; None if it cannot be made."""
    return _first_ways(symbols, given).get(tuple(change))


def composed(first, second):
    """The change that moves each symbol as the first one and then the second one do."""
    return tuple(second[symbol] for symbol in first)


def inverse(change):
    """The change that moves every symbol back."""
    back = [0] * len(change)
    for symbol, moved in enumerate(change):
        back[moved] = symbol
    return tuple(back)


def order_of(change):
    """The least number of times, at least 1, after which a change has moved nothing."""
    unmoved = tuple(range(len(change)))
    made = tuple(change)
    times = 1
    while made != unmoved:
        made = composed(made, change)
        times += 1
    return times


def symbol_orbits(changes):
    """The tuple of the orbits of all symbols, in the order of their least symbols."""
    orbits = []
    for symbol in range(len(changes[0])):
        orbit = tuple(sorted({change[symbol] for change in changes}))
        # Each orbit is met once for each of its symbols, and taken with the least one.
        if orbit[0] == symbol:
            orbits.append(orbit)
    return tuple(orbits)


def kept_by(changes, symbol):
    """The tuple of the changes that leave a symbol where it is, in their order."""
    if not 0 <= symbol < len(changes[0]):
        raise NoSymbol(f"there is no symbol {symbol}")
    return tuple(tuple(change) for change in changes if change[symbol] == symbol)


def _check_given(symbols, given):
    if not LEAST_SYMBOLS <= symbols <= MOST_SYMBOLS:
        raise BadChanges(None, "symbols")
    if len(given) > MOST_GIVEN:
        raise BadChanges(None, "given")
    for number, change in enumerate(given):
        if len(change) != symbols:
            raise BadChanges(number, "length")
        if any(not 0 <= symbol < symbols for symbol in change):
            raise BadChanges(number, "symbol")
        if len(set(change)) != symbols:
            raise BadChanges(number, "twice")


def _first_ways(symbols, given):
    """A dict of all changes that can be made, each with its first way."""
    _check_given(symbols, given)
    unmoved = tuple(range(symbols))
    ways = {unmoved: ()}
    fresh = [unmoved]
    while fresh:
        # Ways are built length by length, those of one length in order,
        # so the way that comes to a change before all others is its first one.
        reached = []
        for change in fresh:
            for number, step in enumerate(given):
                made = composed(change, step)
                if made not in ways:
                    ways[made] = (*ways[change], number)
                    reached.append(made)
        # Asked behind each length, as all that could be made may be far more than 24.
        if len(ways) > MOST_CHANGES:
            raise BadChanges(None, "many")
        fresh = reached
    return ways
