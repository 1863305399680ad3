"""What wirings give, wirings joined with one another, and wirings applied many times."""

from math import lcm

from moveseen.changes import composed, order_of
from moveseen.errors import MoveError
from moveseen.families import settled_inputs, settled_wiring, symbol_shown

MOST_TIMES = 10 ** 60


class NotSquare(MoveError):
    """A family that has not as many outputs as positions."""


class BadTimes(MoveError):
    """A number of times below 0 or above 10 ** 60."""


def applied(family, wiring, given):
    """What a wiring gives for an input."""
    settled = settled_wiring(family, wiring)
    return _gives(family, settled, settled_inputs(family, [given])[0])


def outputs_of(family, wiring, inputs):
    """The tuple of what a wiring gives for each of some inputs."""
    settled = settled_wiring(family, wiring)
    return tuple(_gives(family, settled, given) for given in settled_inputs(family, inputs))


def untouched(family):
    """The wiring of a square family that changes nothing."""
    _check_square(family)
    return _unmoved(family)


def joined(family, first, second):
    """The wiring that shows what the second one shows for what the first one gives."""
    ahead = _square_wiring(family, first)
    return _joined(family, ahead, settled_wiring(family, second))


def power(family, wiring, times):
    """The wiring, applied so many times."""
    settled = _square_wiring(family, wiring)
    if not 0 <= times <= MOST_TIMES:
        raise BadTimes(f"a wiring is not applied {times} times")
    return _power(family, settled, times)


def repetition(family, wiring):
    """The pair of the tail and the length of a wiring."""
    return _repetition(family, _square_wiring(family, wiring))


def undone(family, wiring):
    """The wiring that, joined with this one, changes nothing; None if there is none."""
    settled = _square_wiring(family, wiring)
    tail, length = _repetition(family, settled)
    return None if tail > 0 else _power(family, settled, length - 1)


def times_to(family, wiring, other):
    """The least number of times that a wiring is applied to be the other one; None if it never is."""
    settled = _square_wiring(family, wiring)
    wanted = settled_wiring(family, other)
    tail, length = _repetition(family, settled)
    made = _unmoved(family)
    # From the tail and the length on, the wirings are those that were made before.
    for times in range(tail + length):
        if made == wanted:
            return times
        made = _joined(family, made, settled)
    return None


def _check_square(family):
    if family.outputs != family.positions:
        raise NotSquare("the family has not as many outputs as positions")


def _square_wiring(family, wiring):
    _check_square(family)
    return settled_wiring(family, wiring)


def _gives(family, wiring, given):
    return tuple(symbol_shown(family, source, given) for source in wiring)


def _unmoved(family):
    return tuple((position, 0) for position in range(family.positions))


def _joined(family, first, second):
    return tuple(_joined_source(family, first, source) for source in second)


def _joined_source(family, first, source):
    """The source that an output has if its own one looks at what the first wiring gives."""
    if isinstance(source, int):
        return source
    position, number = source
    change = family.changes[number]
    seen = first[position]
    if isinstance(seen, int):
        return change[seen]
    return seen[0], family.changes.index(composed(family.changes[seen[1]], change))


def _power(family, wiring, times):
    # Squares are joined, as the times can be far too many to join the wiring one by one.
    made = _unmoved(family)
    square = wiring
    left = times
    while left > 0:
        if left % 2 == 1:
            made = _joined(family, made, square)
        square = _joined(family, square, square)
        left //= 2
    return made


def _repetition(family, wiring):
    steps = [None if isinstance(source, int) else source[0] for source in wiring]
    cycles = _cycle_lengths(steps)
    tails = [_steps_to_cycle(steps, cycles, output) for output in range(len(steps))]
    length = 1
    for position, around in cycles.items():
        number = _power(family, wiring, around)[position][1]
        length = lcm(length, around * order_of(family.changes[number]))
    return max(tails, default=0), length


def _cycle_lengths(steps):
    """A dict of the positions that are on a cycle, each with the length of its cycle."""
    cycles = {}
    for start in range(len(steps)):
        at = steps[start]
        around = 1
        # Whoever is not back after as many steps as there are positions never comes back.
        while at is not None and at != start and around < len(steps):
            at = steps[at]
            around += 1
        if at == start:
            cycles[start] = around
    return cycles


def _steps_to_cycle(steps, cycles, output):
    """How many steps lead from an output to a cycle, or to a constant."""
    at = output
    many = 0
    while at is not None and at not in cycles:
        at = steps[at]
        many += 1
    return many
