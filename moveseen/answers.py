"""Answers: the sources and the wirings that outputs leave, numbered without being listed."""

from moveseen.families import settled_inputs, settled_outputs, settled_wiring
from moveseen.rows import sources_by_column


def left_sources(family, inputs, outputs):
    """For each output the tuple of the sources that are left at it, in order."""
    given = settled_inputs(family, inputs)
    shown = settled_outputs(family, given, outputs)
    alike = sources_by_column(family, given)
    columns = [tuple([row[output] for row in shown]) for output in range(family.outputs)]
    return tuple(tuple(alike.get(column, ())) for column in columns)


def wiring_count(family, inputs, outputs):
    """How many wirings are left."""
    return wirings_among(left_sources(family, inputs, outputs))


def wiring_at(family, inputs, outputs, index):
    """The wiring with a number among those that are left; None if there is none."""
    left = left_sources(family, inputs, outputs)
    if not 0 <= index < wirings_among(left):
        return None
    # The numbers are written with a digit for each output, the last one changing first.
    wiring = []
    rest = index
    for sources in reversed(left):
        rest, digit = divmod(rest, len(sources))
        wiring.append(sources[digit])
    return tuple(wiring[::-1])


def wiring_index(family, inputs, outputs, wiring):
    """The number of a wiring among those that are left; None if it is not left."""
    left = left_sources(family, inputs, outputs)
    index = 0
    for sources, source in zip(left, settled_wiring(family, wiring)):
        if source not in sources:
            return None
        index = index * len(sources) + sources.index(source)
    return index


def wirings_among(left):
    """How many wirings have at each output one of the sources that are left at it."""
    many = 1
    for sources in left:
        many *= len(sources)
    return many
