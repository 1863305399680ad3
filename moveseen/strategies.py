"""Strategies, which choose inputs by the outputs so far, for families with one output."""

from moveseen.errors import MoveError
from moveseen.families import check_source, settled_inputs, symbol_shown
from moveseen.plans import first_alike

MOST_APPLIED = 4


class BadStrategy(MoveError):
    """The way to the wrong place of a strategy, and what is wrong with it."""

    def __init__(self, way, reason):
        self.way = way
        self.reason = reason


def check_strategy(family, strategy):
    """Raises BadStrategy if this is no strategy for the family."""
    _check_outputs(family)
    _check_place(family, strategy, ())


def answers_of(family, strategy, source):
    """The tuple of what an output with this source shows as long as the strategy goes on."""
    check_strategy(family, strategy)
    return _answers(family, strategy, check_source(family, source))


def unresolved(family, strategy):
    """The first two sources that the strategy does not tell apart; None if it tells all apart."""
    check_strategy(family, strategy)
    alike = {}
    for source in family.sources:
        alike.setdefault(_answers(family, strategy, source), []).append(source)
    return first_alike(alike)


def depth(family, strategy):
    """The greatest number of inputs that the strategy applies one behind the other."""
    check_strategy(family, strategy)
    return _depth(strategy)


def plain(family, inputs):
    """The strategy that applies these inputs in their order, whatever the outputs are."""
    _check_outputs(family)
    settled = settled_inputs(family, inputs)
    if len(settled) > MOST_APPLIED:
        raise BadStrategy((0,) * MOST_APPLIED, "deep")
    strategy = None
    for given in reversed(settled):
        strategy = (given, (strategy,) * family.symbols)
    return strategy


def trimmed(family, strategy):
    """The strategy with None in each place to which fewer than two sources come."""
    check_strategy(family, strategy)
    return _trimmed(family, strategy, family.sources)


def inputs_seen(family, strategy):
    """How many inputs are applied to all sources together."""
    check_strategy(family, strategy)
    return sum([len(_answers(family, strategy, source)) for source in family.sources])


def _check_outputs(family):
    if family.outputs != 1:
        raise BadStrategy((), "outputs")


def _check_place(family, strategy, way):
    """Checks the place to which a way leads, then all places behind it in order."""
    if strategy is None:
        return
    if not isinstance(strategy, (list, tuple)) or len(strategy) != 2:
        raise BadStrategy(way, "shape")
    if len(way) >= MOST_APPLIED:
        raise BadStrategy(way, "deep")
    given, nexts = strategy
    if len(given) != family.positions:
        raise BadStrategy(way, "length")
    if any(not 0 <= symbol < family.symbols for symbol in given):
        raise BadStrategy(way, "symbol")
    if len(nexts) != family.symbols:
        raise BadStrategy(way, "nexts")
    for symbol, behind in enumerate(nexts):
        _check_place(family, behind, (*way, symbol))


def _answers(family, strategy, source):
    answers = []
    place = strategy
    while place is not None:
        given, nexts = place
        symbol = symbol_shown(family, source, given)
        answers.append(symbol)
        place = nexts[symbol]
    return tuple(answers)


def _depth(strategy):
    if strategy is None:
        return 0
    return 1 + max([_depth(behind) for behind in strategy[1]])


def _trimmed(family, strategy, sources):
    """A place of the trimmed strategy; the sources are those that come to it."""
    if strategy is None or len(sources) < 2:
        return None
    given, nexts = strategy
    kept = []
    for symbol, behind in enumerate(nexts):
        coming = [source for source in sources if symbol_shown(family, source, given) == symbol]
        kept.append(_trimmed(family, behind, coming))
    return tuple(given), tuple(kept)
