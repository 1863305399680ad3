"""Costs: the cheapest inputs that determine every wiring, or check one, where symbols have costs."""

from moveseen.checks import orbits_with, used
from moveseen.counting import BadLength
from moveseen.errors import MoveError
from moveseen.plans import has_no_choice, inputs_with_rows
from moveseen.ranking import first_rows
from moveseen.rows import is_usable, orbit_of

MOST_LISTED = 4096
MOST_COST = 10 ** 6


class BadCosts(MoveError):
    """The first symbol with a wrong cost; None if there are not as many costs as symbols."""

    def __init__(self, number):
        self.number = number


def cheapest_inputs(family, length, costs):
    """The cheapest inputs, so many, that determine every wiring; None if there are none."""
    _check_length(family, length)
    _check_costs(family, costs)
    return _cheapest_inputs(family, length, costs)


def cheapest_length(family, costs, most):
    """The pair of the number of inputs, at most so many, that cost least, and of what they cost."""
    _check_costs(family, costs)
    _check_length(family, most)
    best = None
    for length in range(most + 1):
        inputs = _cheapest_inputs(family, length, costs)
        if inputs is not None:
            cost = sum([_cost_of(given, costs) for given in inputs])
            if best is None or cost < best[1]:
                best = (length, cost)
    return best


def least_check_cost(family, wiring, length, costs):
    """The least cost of so many inputs that check a wiring; None if there are none."""
    positions, constants = used(family, wiring)
    _check_length(family, length)
    _check_costs(family, costs)
    if has_no_choice(family):
        return length * family.positions * min(costs)
    if length == 0:
        return None
    barred = [(orbit[0],) * length for orbit in orbits_with(family.changes, constants)]
    usable, others = _split_rows(family, length)
    own = sorted([_cheapest_row(family, row, costs)[0] for row in usable])
    spare = [_cheapest_row(family, row, costs)[0] for row in others if row not in barred]
    return _least_cost(own, spare, len(positions), family.positions)


def _check_length(family, length):
    longest = 0
    rows = family.symbols
    while rows <= MOST_LISTED:
        rows *= family.symbols
        longest += 1
    if not 0 <= length <= longest:
        raise BadLength(f"rows of the length {length} are not listed")


def _check_costs(family, costs):
    if len(costs) != family.symbols:
        raise BadCosts(None)
    for symbol, cost in enumerate(costs):
        if not 0 <= cost <= MOST_COST:
            raise BadCosts(symbol)


def _cost_of(row, costs):
    return sum([costs[symbol] for symbol in row])


def _cheapest_inputs(family, length, costs):
    if has_no_choice(family):
        cheapest = costs.index(min(costs))
        return ((cheapest,) * family.positions,) * length
    if length == 0:
        return None
    usable, _ = _split_rows(family, length)
    if len(usable) < family.positions:
        return None
    priced = sorted([_cheapest_row(family, row, costs) for row in usable])
    rows = sorted([row for _, row in priced[:family.positions]])
    return inputs_with_rows(rows, length)


def _split_rows(family, length):
    """The lists of the usable rows of a length, and of the other ones that are first in their orbits."""
    usable = []
    others = []
    for row in first_rows(family.changes, length, MOST_LISTED):
        if is_usable(family.changes, family.constants, row):
            usable.append(row)
        else:
            others.append(row)
    return usable, others


def _cheapest_row(family, row, costs):
    """The pair of the least cost of a row in the orbit, and the first row that costs so much."""
    return min([(_cost_of(other, costs), other) for other in orbit_of(family.changes, row)])


def _least_cost(own, spare, many, positions):
    """The least cost of the rows of all positions, of which so many are used.

    Each used position takes one of its own costs, ascending, which are those of the usable orbits.
    All others take the same one: of those that are left, or of the spare ones.
    """
    resting = positions - many
    sums = []
    if len(own) >= many and (resting == 0 or spare):
        sums.append(sum(own[:many]) + resting * min(spare, default=0))
    if len(own) > many:
        # One of the cheapest usable orbits is left to the others, however dear it is for those in use.
        taken = own[:many + 1]
        sums.extend([sum(taken) + (resting - 1) * cost for cost in taken])
    return min(sums, default=None)
