"""How many orbits of rows, free orbits and usable rows there are, without listing any row."""

from moveseen.changes import kept_by, symbol_orbits
from moveseen.errors import MoveError

MOST_LENGTH = 300
MOST_ROWS = 10 ** 60


class BadLength(MoveError):
    """A length below 0 or above 300."""


class BadCount(MoveError):
    """A number of rows that are wanted below 0 or above 10 ** 60."""


def orbit_count(changes, length):
    """How many orbits the rows of a length have."""
    check_length(length)
    branches = branches_of(changes)
    counts = {group: 1 for group in branches}
    for _ in range(length):
        counts = counts_behind(branches, counts)
    return counts[settled_changes(changes)]


def free_count(changes, length):
    """How many free orbits the rows of a length have."""
    check_length(length)
    return free_tables(branches_of(changes), length)[length][settled_changes(changes)]


def capacity(changes, constants, length):
    """How many rows of a length are usable."""
    free = free_count(changes, length)
    if length == 0:
        return 0 if constants else free
    return free - len(barred_constants(changes, constants))


def least_length(changes, constants, many):
    """The least length, at least 1, for which at least so many rows are usable."""
    if not 0 <= many <= MOST_ROWS:
        raise BadCount(f"no {many} rows can be wanted")
    whole = settled_changes(changes)
    branches = branches_of(changes)
    wanted = many + len(barred_constants(changes, constants))
    counts = counts_behind(branches, free_start(branches))
    length = 1
    while counts[whole] < wanted:
        counts = counts_behind(branches, counts)
        length += 1
    return length


def check_length(length):
    """Raises BadLength if a length is below 0 or above 300."""
    if not 0 <= length <= MOST_LENGTH:
        raise BadLength(f"no row has the length {length} here")


def settled_changes(changes):
    """The changes as a tuple of tuples, which is the key of all of them in the dicts below."""
    return tuple(tuple(change) for change in changes)


def barred_constants(changes, constants):
    """The least symbols of those orbits of constants whose repeated rows would be usable."""
    orbits = [orbit for orbit in symbol_orbits(changes) if len(orbit) == len(changes)]
    return tuple(orbit[0] for orbit in orbits if orbit[0] in constants)


def branches_of(changes):
    """A dict of the groups of changes that can leave a row where it is.

    Each has a dict of the symbols that can follow in a first row, ascending, each with
    the group of those changes that leave it where it is, too.
    """
    branches = {}
    found = [settled_changes(changes)]
    while found:
        group = found.pop()
        if group not in branches:
            least = [orbit[0] for orbit in symbol_orbits(group)]
            branches[group] = {symbol: kept_by(group, symbol) for symbol in least}
            found.extend(list(branches[group].values()))
    return branches


def counts_behind(branches, counts):
    """For each group the count for rows that are one symbol longer than those counted."""
    return {group: sum([counts[kept] for kept in branches[group].values()]) for group in branches}


def free_start(branches):
    """For each group the number of free orbits of the length 0."""
    return {group: 1 if len(group) == 1 else 0 for group in branches}


def free_tables(branches, length):
    """The list, by lengths from 0 to this one, of the numbers of free orbits for each group."""
    tables = [free_start(branches)]
    while len(tables) <= length:
        tables.append(counts_behind(branches, tables[-1]))
    return tables
