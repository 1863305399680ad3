"""Strategies (part F): answers, depth, what is told apart, and strategies that are trimmed."""

from itertools import combinations, product

from moveseen.families import BadInputs, Family, NoSource
from moveseen.plans import plan_inputs
from moveseen.rows import column_of
from moveseen.strategies import (
    BadStrategy,
    answers_of,
    check_strategy,
    depth,
    inputs_seen,
    plain,
    trimmed,
    unresolved,
)
from tests.helpers import SMALL_FAMILIES, CallCase, rows_as, shown_by_hand

TURNED = Family(3, 2, 1, [(1, 2, 0)], [])
BARE = Family(3, 2, 1, [], [])
FILLED = Family(2, 2, 1, [(1, 0)], [0, 1])
FOUR = Family(2, 4, 1, [], [])
ONE_SOURCE = Family(2, 1, 1, [], [])
NO_SOURCE = Family(2, 0, 1, [], [])
LAST = ((0, 1), (None, None, None))
BOTH = ((0, 0), (LAST, LAST, LAST))
# Four inputs one behind the other where an output shows 0, and fewer elsewhere.
LONG = ((0, 1), (((1, 1), (((0, 0), (((1, 0), (None, None)), None)), None)), ((0, 0), (None, None))))


def chain(inputs, symbols):
    """Inputs one behind the other while the output shows 0, and nothing elsewhere."""
    strategy = None
    for given in reversed(inputs):
        strategy = (given, (strategy,) + (None,) * (symbols - 1))
    return strategy


def strategies_within(family, most):
    """All strategies that apply at most so many inputs one behind the other."""
    if most == 0:
        return [None]
    behind = strategies_within(family, most - 1)
    inputs = list(product(range(family.symbols), repeat=family.positions))
    pairs = [(given, nexts) for given in inputs for nexts in product(behind, repeat=family.symbols)]
    return [None, *pairs]


def some_strategies():
    """Pairs of a family and a strategy for it, with None at some places and of all depths."""
    for family in SMALL_FAMILIES:
        if family.outputs != 1:
            continue
        given = list(product(range(family.symbols), repeat=family.positions))
        few = [given[0], given[-1], given[len(given) // 2], given[len(given) // 3]]
        yield family, None
        for many in range(1, 5):
            yield family, chain(few[:many], family.symbols)
            yield family, plain(family, few[:many])
        first = chain(few[:2], family.symbols)
        second = chain(few[1:], family.symbols)
        yield family, (few[2], (None, second, *(first,) * (family.symbols - 2)))
        yield family, (few[1], (second, None, *(second,) * (family.symbols - 2)))
    yield FOUR, LONG_FOR_FOUR


LONG_FOR_FOUR = ((0, 0, 1, 1), (((0, 1, 0, 0), (None, None)), ((0, 0, 0, 1), (None, None))))


def answers_by_hand(family, strategy, source):
    if strategy is None:
        return ()
    symbol = shown_by_hand(family, source, strategy[0])
    return (symbol, *answers_by_hand(family, strategy[1][symbol], source))


def tells_apart(family, strategy, first, second):
    """True if at some input that is applied to both sources their answers differ."""
    if strategy is None:
        return False
    symbol = shown_by_hand(family, first, strategy[0])
    if symbol != shown_by_hand(family, second, strategy[0]):
        return True
    return tells_apart(family, strategy[1][symbol], first, second)


def pairs_told_apart(family, strategy):
    pairs = combinations(family.sources, 2)
    return [pair for pair in pairs if tells_apart(family, strategy, *pair)]


def trimmed_by_hand(family, strategy, way=()):
    answers = [answers_by_hand(family, strategy, source) for source in family.sources]

    def place(part, way):
        coming = [row for row in answers if row[:len(way)] == way]
        if part is None or len(coming) < 2:
            return None
        return part[0], tuple(place(behind, (*way, symbol)) for symbol, behind in enumerate(part[1]))

    return place(strategy, ())


class AnswersTest(CallCase):
    def test_examples_of_the_document(self):
        self.check_call((1, 2), answers_of, TURNED, BOTH, (1, 1))
        self.check_call(None, check_strategy, TURNED, BOTH)

    def test_none(self):
        for family in (TURNED, FILLED, ONE_SOURCE, NO_SOURCE):
            self.check_call(None, check_strategy, family, None)
            for source in family.sources:
                self.check_call((), answers_of, family, None, source)

    def test_none_at_some_places(self):
        self.check_call((0, 1), answers_of, FILLED, LONG, (0, 0))
        self.check_call((1, 1), answers_of, FILLED, LONG, (0, 1))
        self.check_call((1, 0), answers_of, FILLED, LONG, (1, 0))
        self.check_call((0, 0, 1), answers_of, FILLED, LONG, (1, 1))
        self.check_call((0, 0, 0, 0), answers_of, FILLED, LONG, 0)
        self.check_call((1, 1), answers_of, FILLED, LONG, 1)

    def test_no_positions(self):
        family = Family(2, 0, 1, [], [0, 1])
        strategy = ((), (((), (None, None)), None))
        self.check_call((0, 0), answers_of, family, strategy, 0)
        self.check_call((1,), answers_of, family, strategy, 1)
        self.check_call(None, check_strategy, NO_SOURCE, strategy)

    def test_against_answers_by_hand(self):
        for family, strategy in some_strategies():
            for source in family.sources:
                wanted = answers_by_hand(family, strategy, source)
                self.check_call(wanted, answers_of, family, strategy, source)

    def test_no_source_behind_bad_strategy(self):
        for source in ((2, 0), (-1, 0), (0, 3), 0, 3):
            self.check_error(NoSource, {}, answers_of, TURNED, BOTH, source)
            self.check_error(NoSource, {}, answers_of, TURNED, None, source)
            wanted = {"way": (0,), "reason": "length"}
            strategy = ((0, 0), (((0,), (None,) * 3), None, None))
            self.check_error(BadStrategy, wanted, answers_of, TURNED, strategy, source)


class ToldApartTest(CallCase):
    def test_examples_of_the_document(self):
        self.check_call(((0, 0), (1, 0)), unresolved, TURNED, ((0, 0), (None, None, None)))
        self.check_call(None, unresolved, TURNED, BOTH)

    def test_none(self):
        self.check_call(((0, 0), (0, 1)), unresolved, TURNED, None)
        self.check_call(((0, 0), (1, 0)), unresolved, BARE, None)
        self.check_call((0, 1), unresolved, Family(2, 0, 1, [], [0, 1]), None)
        self.check_call(((0, 0), 1), unresolved, Family(2, 1, 1, [], [1]), None)

    def test_at_most_one_source(self):
        for family in (ONE_SOURCE, NO_SOURCE, Family(2, 0, 1, [], [1])):
            given = (0,) * family.positions
            self.check_call(None, unresolved, family, None)
            self.check_call(None, unresolved, family, (given, (None, None)))

    def test_the_first_pair_of_several(self):
        # By the first source, and only then by the second one.
        self.check_call(((0, 0), (3, 0)), unresolved, FOUR, ((0, 1, 1, 0), (None, None)))
        self.check_call(((0, 0), (1, 0)), unresolved, FOUR, ((0, 0, 1, 1), (None, None)))
        last = ((0, 0, 0, 1), (None, None))
        self.check_call(((0, 0), (1, 0)), unresolved, FOUR, ((0, 0, 1, 1), (None, last)))
        last = ((0, 1, 0, 0), (None, None))
        self.check_call(((2, 0), (3, 0)), unresolved, FOUR, ((0, 0, 1, 1), (last, None)))
        self.check_call(None, unresolved, FOUR, LONG_FOR_FOUR)
        # (0, 1), (1, 0) and 1 are alike, too, but stand behind (0, 0).
        strategy = ((0, 1), (((0, 0), (None, ((1, 1), (None, None)))), None))
        self.check_call(((0, 0), 0), unresolved, FILLED, strategy)

    def test_against_pairs_by_hand(self):
        for family, strategy in some_strategies():
            apart = pairs_told_apart(family, strategy)
            alike = [pair for pair in combinations(family.sources, 2) if pair not in apart]
            self.check_call(alike[0] if alike else None, unresolved, family, strategy)
            for pair in combinations(family.sources, 2):
                answers = [answers_of(family, strategy, source) for source in pair]
                self.assertEqual(answers[0] != answers[1], pair in apart)

    def test_choosing_by_outputs_never_makes_fewer_inputs_do(self):
        tried = 0
        for family in SMALL_FAMILIES:
            fewest = len(plan_inputs(family))
            many = family.symbols ** family.positions
            if family.outputs == 1 and (fewest <= 2 or fewest == 3 and many <= 4):
                for strategy in strategies_within(family, max(fewest - 1, 0)):
                    if unresolved(family, strategy) is None:
                        self.assertLessEqual(fewest, depth(family, strategy))
                    tried += 1
                if fewest <= 4:
                    strategy = plain(family, plan_inputs(family))
                    self.assertIsNone(unresolved(family, strategy))
                    self.assertEqual(depth(family, strategy), fewest)
        self.assertGreater(tried, 100)


class DepthTest(CallCase):
    def test_examples_of_the_document(self):
        self.check_call(2, depth, TURNED, BOTH)
        self.check_call(12, inputs_seen, TURNED, BOTH)
        self.check_call(4, inputs_seen, BARE, ((0, 1), (LAST, LAST, LAST)))

    def test_none(self):
        for family in (TURNED, FILLED, ONE_SOURCE, NO_SOURCE):
            self.check_call(0, depth, family, None)
            self.check_call(0, inputs_seen, family, None)

    def test_four_inputs_one_behind_the_other(self):
        self.check_call(4, depth, FILLED, LONG)
        self.check_call(2 + 2 + 2 + 3 + 4 + 2, inputs_seen, FILLED, LONG)

    def test_where_no_source_leads(self):
        # The output shows 0 for (0, 0) whichever of the two positions it looks at.
        strategy = ((0, 0), (None, chain([(0, 0)] * 3, 3), LAST))
        self.check_call(4, depth, BARE, strategy)
        self.check_call(2, inputs_seen, BARE, strategy)
        self.check_call(1, depth, NO_SOURCE, ((), (None, None)))
        self.check_call(0, inputs_seen, NO_SOURCE, ((), (None, None)))

    def test_the_deepest_place_may_be_any(self):
        for place in range(3):
            nexts = [LAST, LAST, None]
            nexts[place] = BOTH
            self.check_call(3, depth, TURNED, ((0, 0), tuple(nexts)))
        self.check_call(1, depth, TURNED, LAST)

    def test_the_lengths_of_all_answers(self):
        for family, strategy in some_strategies():
            answers = [answers_by_hand(family, strategy, source) for source in family.sources]
            self.check_call(sum(map(len, answers)), inputs_seen, family, strategy)


class PlainTest(CallCase):
    def test_no_inputs(self):
        for family in (TURNED, FILLED, NO_SOURCE):
            self.check_call(None, plain, family, ())

    def test_of_tuples(self):
        self.check_call(LAST, plain, TURNED, [(0, 1)])
        self.check_call(BOTH, plain, TURNED, [(0, 0), (0, 1)])
        self.check_call(((), (((), (None, None)),) * 2), plain, NO_SOURCE, [(), ()])

    def test_four_inputs(self):
        family = Family(2, 1, 1, [], [])
        fourth = ((1,), (None, None))
        third = ((0,), (fourth, fourth))
        second = ((1,), (third, third))
        self.check_call(((0,), (second, second)), plain, family, [(0,), (1,), (0,), (1,)])

    def test_answers_are_columns(self):
        for family in SMALL_FAMILIES:
            if family.outputs != 1:
                continue
            every = list(product(range(family.symbols), repeat=family.positions))
            for inputs in (every[:1], every[-2:], (every * 4)[:4], (every[::-1] * 4)[1:4]):
                strategy = plain(family, inputs)
                self.assertEqual(depth(family, strategy), len(inputs))
                self.assertEqual(inputs_seen(family, strategy), len(inputs) * len(family.sources))
                for source in family.sources:
                    column = column_of(family, inputs, source)
                    self.assertEqual(answers_of(family, strategy, source), column)

    def test_outputs_ahead_of_bad_inputs(self):
        wanted = {"way": (), "reason": "outputs"}
        for outputs in (0, 2, 12):
            family = Family(3, 2, outputs, [], [])
            for inputs in ([], [(0, 0)], [(0, 0)] * 5, [(0, 0)] * 13, [(0,)], [(0, 3)]):
                self.check_error(BadStrategy, wanted, plain, family, inputs)

    def test_bad_inputs_ahead_of_deep(self):
        for inputs, number, reason in (
            ([(0, 0)] * 13, None, "many"),
            ([(0, 0)] * 5 + [(0,), (0, 3)], 5, "length"),
            ([(0, 0)] * 11 + [(0, 3)], 11, "symbol"),
            ([(0, 0), (0, 0, 0)], 1, "length"),
            ([(-1, 0)], 0, "symbol"),
        ):
            wanted = {"number": number, "reason": reason}
            self.check_error(BadInputs, wanted, plain, TURNED, inputs)

    def test_deep(self):
        wanted = {"way": (0, 0, 0, 0), "reason": "deep"}
        for many in (5, 6, 12):
            self.check_error(BadStrategy, wanted, plain, TURNED, [(0, 1)] * many)
            self.check_error(BadStrategy, wanted, plain, NO_SOURCE, [()] * many)


class TrimmedTest(CallCase):
    def test_example_of_the_document(self):
        strategy = ((0, 1), (LAST, LAST, LAST))
        self.check_call(((0, 1), (None, None, None)), trimmed, BARE, strategy)
        self.check_call(2, inputs_seen, BARE, trimmed(BARE, strategy))

    def test_none(self):
        for family in (TURNED, FILLED, ONE_SOURCE, NO_SOURCE):
            self.check_call(None, trimmed, family, None)

    def test_at_most_one_source(self):
        for family in (ONE_SOURCE, NO_SOURCE, Family(2, 0, 1, [], [1])):
            given = (0,) * family.positions
            self.check_call(None, trimmed, family, (given, ((given, (None, None)), None)))

    def test_two_sources_that_are_not_told_apart_keep_what_is_behind(self):
        behind = ((0, 0), (LAST, None, None))
        strategy = ((0, 0), (behind, LAST, behind))
        self.check_call(((0, 0), (behind, None, None)), trimmed, BARE, strategy)

    def test_a_source_alone_is_applied_nothing_more(self):
        strategy = ((0, 0), (LAST, LAST, LAST))
        self.check_call(strategy, trimmed, TURNED, strategy)
        # Behind an output 0 the outputs for the same input are 0 again.
        deep = ((0, 0), (BOTH, LAST, None))
        kept = ((0, 0), (((0, 0), (LAST, None, None)), LAST, None))
        self.check_call(kept, trimmed, TURNED, deep)
        deep = ((0, 0), (((0, 1), (LAST, LAST, BOTH)), LAST, None))
        self.check_call(((0, 0), (LAST, LAST, None)), trimmed, TURNED, deep)

    def test_against_trimmed_by_hand(self):
        for family, strategy in some_strategies():
            self.check_call(trimmed_by_hand(family, strategy), trimmed, family, strategy)

    def test_the_same_pairs_and_no_more_inputs(self):
        shorter = 0
        for family, strategy in some_strategies():
            kept = trimmed(family, strategy)
            self.assertEqual(pairs_told_apart(family, kept), pairs_told_apart(family, strategy))
            self.assertEqual(unresolved(family, kept), unresolved(family, strategy))
            for source in family.sources:
                before = len(answers_of(family, strategy, source))
                self.assertLessEqual(len(answers_of(family, kept, source)), before)
            shorter += inputs_seen(family, kept) < inputs_seen(family, strategy)
            self.check_call(kept, trimmed, family, kept)
        self.assertGreater(shorter, 5)


class BadStrategyTest(CallCase):
    FUNCTIONS = (check_strategy, unresolved, depth, trimmed, inputs_seen)

    def check_bad(self, way, reason, family, strategy):
        wanted = {"way": way, "reason": reason}
        for function in self.FUNCTIONS:
            self.check_error(BadStrategy, wanted, function, family, strategy)
        self.check_error(BadStrategy, wanted, answers_of, family, strategy, (0, 0))
        self.check_error(BadStrategy, wanted, answers_of, family, strategy, (9, 9))
        with self.assertRaises(BadStrategy) as caught:
            check_strategy(family, strategy)
        self.assertIsInstance(caught.exception.way, tuple)

    def within(self, way, wrong):
        """A strategy that has something wrong at the place to which a way leads, and None beside it."""
        strategy = wrong
        for symbol in reversed(way):
            nexts = [None, None, None]
            nexts[symbol] = strategy
            strategy = ((0, 1), tuple(nexts))
        return strategy

    def test_outputs_ahead_of_all(self):
        for outputs in (0, 2, 12):
            family = Family(3, 2, outputs, [], [])
            for strategy in (None, BOTH, 7, (), ((0,), ()), ((0, 9), (None, None))):
                self.check_bad((), "outputs", family, strategy)

    def test_each_reason_at_each_place(self):
        wrong = {
            "shape": (0, 5, -1, "", "ab", {}, {0: 1, 1: 2}, (), (LAST,), ((0, 1),), (*LAST, None), (None,) * 4),
            "length": (((), (None,) * 3), ((0,), (None,) * 3), ((0, 1, 2), (None,) * 3)),
            "symbol": (((0, 3), (None,) * 3), ((-1, 0), (None,) * 3), ((9, 9), (None,) * 3)),
            "nexts": (((0, 1), ()), ((0, 1), (None,) * 2), ((0, 1), (None,) * 4)),
        }
        for reason, strategies in wrong.items():
            for strategy in strategies:
                for way in ((), (0,), (2,), (1, 2), (2, 0, 1)):
                    self.check_bad(way, reason, TURNED, self.within(way, strategy))

    def test_shape_of_what_stands_behind_four_inputs(self):
        for wrong in (0, 5, "ab", (), (LAST,), (None,) * 3):
            self.check_bad((0, 1, 2, 0), "shape", TURNED, self.within((0, 1, 2, 0), wrong))

    def test_deep(self):
        for way in ((0, 0, 0, 0), (2, 1, 0, 2), (1, 1, 1, 1)):
            self.check_bad(way, "deep", TURNED, self.within(way, LAST))
            self.check_bad(way, "deep", TURNED, self.within(way, BOTH))
        self.check_call(4, depth, TURNED, self.within((0, 1, 2), LAST))
        self.check_bad((0, 0, 0, 0), "deep", NO_SOURCE, chain([()] * 5, 2))

    def test_several_things_wrong_at_one_place(self):
        for way in ((), (1,), (0, 2, 1)):
            self.check_bad(way, "shape", TURNED, self.within(way, ((0,), (), None)))
            self.check_bad(way, "length", TURNED, self.within(way, ((9,), ())))
            self.check_bad(way, "length", TURNED, self.within(way, ((-1, 0, 0), (5, None, None))))
            self.check_bad(way, "symbol", TURNED, self.within(way, ((0, 3), ())))
            self.check_bad(way, "symbol", TURNED, self.within(way, ((0, 3), (5, 5, 5))))
            self.check_bad(way, "nexts", TURNED, self.within(way, ((0, 1), (5,))))
            self.check_bad(way, "nexts", TURNED, self.within(way, ((0, 1), (5, ((9,), ()), None, None))))
        for wrong in (((9,), ()), ((0, 3), ()), ((0, 1), (5,))):
            self.check_bad((0, 0, 0, 0), "deep", TURNED, self.within((0, 0, 0, 0), wrong))

    def test_the_first_place_in_the_order_of_the_ways(self):
        first = ((0,), (None,) * 3)
        second = ((0, 3), (None,) * 3)
        third = ((0, 1), ())
        self.check_bad((0,), "length", TURNED, ((0, 0), (first, second, third)))
        self.check_bad((1,), "symbol", TURNED, ((0, 0), (None, second, first)))
        self.check_bad((2,), "nexts", TURNED, ((0, 0), (LAST, None, third)))
        # All places behind (0,) come ahead of (1,), and a place ahead of those behind it.
        behind = ((0, 0), (None, None, third))
        self.check_bad((0, 2), "nexts", TURNED, ((0, 0), (behind, second, first)))
        deep = self.within((2, 2, 2), 7)
        self.check_bad((0, 2, 2, 2), "shape", TURNED, ((0, 0), (deep, first, second)))
        self.check_bad((1,), "symbol", TURNED, ((0, 0), (None, ((0, 3), (first, 7, third)), deep)))
        self.check_bad((), "length", TURNED, ((0, 0, 0), (first, second, third)))

    def test_what_no_source_comes_to_is_checked_too(self):
        self.check_bad((2,), "shape", BARE, ((0, 0), (None, None, 7)))
        self.check_bad((1,), "shape", NO_SOURCE, ((), (None, 7)))

    def test_nothing_is_changed(self):
        strategy = rows_as(((0, 0), (LAST, ((0, 3), (None,) * 3), None)), list, list)
        before = repr(strategy)
        for function in self.FUNCTIONS:
            with self.assertRaises(BadStrategy):
                function(TURNED, strategy)
            self.assertEqual(repr(strategy), before)
