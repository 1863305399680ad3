"""Redundancy: inputs that can be left out, and the fewest that tell as much as all."""

from itertools import combinations

from moveseen.families import settled_inputs
from moveseen.rows import sources_by_column


def redundant_inputs(family, inputs):
    """The ascending tuple of the numbers of the inputs that can each be left out."""
    columns = _columns_to_tell(family, inputs)
    return tuple(_redundant(columns, len(inputs)))


def kept_inputs(family, inputs):
    """The ascending tuple of the numbers of the fewest inputs that are enough, the first such set."""
    columns = _columns_to_tell(family, inputs)
    redundant = _redundant(columns, len(inputs))
    needed = [number for number in range(len(inputs)) if number not in redundant]
    # Each set that is enough has all that are needed, so the sets of the others are in the same order.
    for many in range(len(redundant)):
        for taken in combinations(redundant, many):
            numbers = sorted([*needed, *taken])
            if _are_enough(columns, numbers):
                return tuple(numbers)
    return tuple(range(len(inputs)))


def _columns_to_tell(family, inputs):
    """The list of the different columns of sources; none without outputs, as nothing is shown then."""
    settled = settled_inputs(family, inputs)
    return list(sources_by_column(family, settled)) if family.outputs > 0 else []


def _redundant(columns, many):
    """The list of the numbers of the redundant ones of so many inputs."""
    numbers = list(range(many))
    return [number for number in numbers if _are_enough(columns, [other for other in numbers if other != number])]


def _are_enough(columns, numbers):
    """True if no two columns are the same at the places with these numbers."""
    return len({tuple([column[number] for number in numbers]) for column in columns}) == len(columns)
