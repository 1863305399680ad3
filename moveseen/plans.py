"""Plans: the fewest inputs that determine every wiring of a family."""

from moveseen.counting import least_length
from moveseen.families import settled_inputs
from moveseen.ranking import usable_row
from moveseen.rows import sources_by_column


def plan_inputs(family):
    """The tuple of the inputs of the plan of a family."""
    if has_no_choice(family):
        return ()
    changes, constants = family.changes, family.constants
    length = least_length(changes, constants, family.positions)
    rows = [usable_row(changes, constants, length, position) for position in range(family.positions)]
    return inputs_with_rows(rows, length)


def find_confusion(family, inputs):
    """Two wirings that give the same for all inputs; None if the inputs determine every wiring."""
    settled = settled_inputs(family, inputs)
    if family.outputs == 0:
        return None
    pair = first_alike(sources_by_column(family, settled))
    if pair is None:
        return None
    first, second = pair
    return (first,) * family.outputs, (second,) * family.outputs


def determines(family, inputs):
    """True if the inputs determine every wiring of the family."""
    return find_confusion(family, inputs) is None


def has_no_choice(family):
    """True without outputs, or with at most one source: then no two wirings are different."""
    return family.outputs == 0 or len(family.sources) <= 1


def inputs_with_rows(rows, length):
    """The tuple of the inputs, so many, that give the positions these rows."""
    return tuple(tuple([row[number] for row in rows]) for number in range(length))


def first_alike(alike):
    """The first two sources that stand in one list of a dict; None if no two do.

    The lists, and the sources within them, stand in the order of sources.
    """
    for same in alike.values():
        if len(same) > 1:
            return same[0], same[1]
    return None
