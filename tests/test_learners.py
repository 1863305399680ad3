"""Learners (part J): events, what is left behind them, and inputs that are passed over."""

import random
from itertools import product

from moveseen.families import BadOutputs, Family, NoSource
from moveseen.learners import (
    BadEvent,
    Learner,
    NoInput,
    NoOutput,
    NothingToUndo,
    NoWiring,
    replayed,
)
from moveseen.plans import plan_inputs
from moveseen.wirings import applied
from tests.helpers import (
    SMALL_FAMILIES,
    CallCase,
    all_wirings,
    has_only_tuples,
    look_of,
    rows_as,
    shown_by_hand,
)

EXAMPLE = Family(3, 2, 2, (), ())
TURNED = Family(3, 2, 2, [(1, 2, 0)], [0, 1, 2])
# Its plan is (0, 0, 0, 0), (0, 0, 1, 1), (0, 1, 0, 1), as the first usable rows are 000, 001, 010, 011.
FOUR = Family(2, 4, 1, [(1, 0)], [])
# Its plan is (0, 0, 0, 0, 1), (0, 0, 1, 1, 0), (0, 1, 0, 1, 0).
FIVE = Family(2, 5, 2, [], [])
GREAT = Family(4, 12, 12, [(1, 0, 2, 3), (1, 2, 3, 0)], [0, 1, 2, 3])
NO_OUTPUTS = Family(3, 2, 0, [(1, 2, 0)], [0, 1, 2])
ONE_SOURCE = Family(2, 1, 3, [], [])
NO_SOURCE = Family(2, 0, 2, [], [])


def seen(learner):
    """All that a learner tells."""
    return (
        learner.inputs(),
        learner.next_input(),
        learner.left(),
        learner.wiring_count(),
        learner.sure(),
        learner.events(),
    )


def learner_of(family, events):
    """A learner that took some events, by its methods."""
    learner = Learner(family)
    for name, *parts in events:
        {"answer": learner.answer, "rule out": learner.rule_out}[name](*parts)
    return learner


def left_by_hand(family, inputs, answers, ruled_out):
    """What is left of each output behind answers to these inputs, and sources that are ruled out."""
    left = []
    for output in range(family.outputs):
        kept = []
        for source in family.sources:
            fits = all(shown_by_hand(family, source, given) == row[output] for given, row in zip(inputs, answers))
            if fits and (output, source) not in ruled_out:
                kept.append(source)
        left.append(tuple(kept))
    return tuple(left)


def tells_nothing(family, given, left):
    return all(len({shown_by_hand(family, source, given) for source in sources}) <= 1 for sources in left)


class LearnerCase(CallCase):
    def check_told(self, wanted, family, events, name, *arguments):
        """A method of a learner that took some events, called with tuples and with lists."""
        for row in self.kinds_of(arguments):
            learner = learner_of(family, events)
            before = look_of(row)
            told = getattr(learner, name)(*row)
            with self.subTest(name=name, arguments=before):
                self.assertEqual(told, wanted)
                self.assertEqual(look_of(told), look_of(wanted))
                self.assertTrue(has_only_tuples(told), told)
                self.assertEqual(look_of(row), before)
                self.assertTrue(has_only_tuples(seen(learner)), seen(learner))

    def check_wrong(self, kind, attributes, family, events, name, *arguments):
        """A call that raises an error, and changes nothing."""
        for row in self.kinds_of(arguments):
            learner = learner_of(family, events)
            before = seen(learner)
            with self.subTest(name=name, arguments=row):
                with self.assertRaises(kind) as caught:
                    getattr(learner, name)(*row)
                self.assertIs(type(caught.exception), kind)
                for attribute, wanted in attributes.items():
                    self.assertEqual(getattr(caught.exception, attribute), wanted)
                self.assertEqual(seen(learner), before)


class NewLearnerTest(LearnerCase):
    def test_all_sources_are_left(self):
        for family in (*SMALL_FAMILIES, EXAMPLE, TURNED, FIVE, GREAT):
            learner = Learner(family)
            self.assertEqual(learner.inputs(), plan_inputs(family))
            self.assertEqual(learner.left(), (family.sources,) * family.outputs)
            self.assertEqual(learner.wiring_count(), len(family.sources) ** family.outputs)
            self.assertEqual(learner.events(), ())
            self.assertTrue(has_only_tuples(seen(learner)))

    def test_sure(self):
        self.check_told((None, None), TURNED, (), "sure")
        self.check_told((), NO_OUTPUTS, (), "sure")
        self.check_told(((0, 0),) * 3, ONE_SOURCE, (), "sure")
        self.check_told((1, 1), Family(3, 0, 2, [], [1]), (), "sure")
        self.check_told((None, None), NO_SOURCE, (), "sure")

    def test_next_input(self):
        self.check_told((0, 1), EXAMPLE, (), "next_input")
        self.check_told((0, 0), TURNED, (), "next_input")
        self.check_told((0,) * 4, FOUR, (), "next_input")
        self.check_told((), Family(2, 0, 2, [], [0, 1]), (), "next_input")
        for family in (NO_OUTPUTS, ONE_SOURCE, NO_SOURCE):
            self.check_told((), family, (), "inputs")
            self.check_told(None, family, (), "next_input")

    def test_learners_do_not_share_what_they_know(self):
        first, second = Learner(EXAMPLE), Learner(EXAMPLE)
        before = seen(second)
        first.answer((0, 1))
        first.undo()
        first.rule_out(0, (1, 0))
        self.assertEqual(seen(second), before)
        self.assertEqual(seen(Learner(EXAMPLE)), before)


class AnswerTest(LearnerCase):
    def test_how_many_wirings_are_left(self):
        self.check_told(1, EXAMPLE, (), "answer", (0, 1))
        self.check_told(9, TURNED, (), "answer", (2, 0))
        self.check_told(1, TURNED, [("answer", (2, 0))], "answer", (0, 0))
        self.check_told(4, FIVE, (), "answer", (1, 0))
        self.check_told(16, FIVE, (), "answer", (0, 0))

    def test_what_is_left(self):
        self.assertEqual(plan_inputs(TURNED), ((0, 0), (1, 2)))
        learner = learner_of(TURNED, [("answer", (2, 0))])
        self.assertEqual(learner.left(), (((0, 2), (1, 2), 2), ((0, 0), (1, 0), 0)))
        self.assertEqual(learner.next_input(), (1, 2))
        self.assertEqual(learner.answer([2, 1]), 1)
        self.assertEqual(learner.left(), ((2,), ((0, 0),)))
        self.assertEqual(learner.sure(), (2, (0, 0)))
        self.assertIsNone(learner.next_input())

    def test_events(self):
        events = (("answer", (2, 0)), ("answer", (2, 1)))
        self.check_told(events, TURNED, events, "events")
        learner = Learner(TURNED)
        learner.answer([2, 0])
        learner.answer([2, 1])
        self.assertEqual(learner.events(), events)
        self.assertTrue(has_only_tuples(learner.events()))

    def test_inputs_that_tell_nothing_are_passed_over(self):
        self.assertEqual(plan_inputs(FIVE), ((0, 0, 0, 0, 1), (0, 0, 1, 1, 0), (0, 1, 0, 1, 0)))
        # Behind 1 for the first input position 4 alone is left, so no input tells anything any more.
        self.check_told(None, FIVE, [("answer", (1, 1))], "next_input")
        self.check_told((0, 0, 1, 1, 0), FIVE, [("answer", (1, 0))], "next_input")
        # Without the positions 2 and 3 the second input is 0 whatever is left.
        events = [("rule out", output, (position, 0)) for output in (0, 1) for position in (2, 3)]
        self.check_told((0, 0, 0, 0, 1), FIVE, events, "next_input")
        self.check_told((0, 1, 0, 1, 0), FIVE, [*events, ("answer", (0, 0))], "next_input")
        self.check_told((0, 1, 0, 1, 0), FIVE, [*events, ("answer", (1, 0))], "next_input")
        # One output alone for which it tells something is enough.
        self.check_told((0, 0, 1, 1, 0), FIVE, [*events[:3], ("answer", (0, 0))], "next_input")

    def test_an_input_may_be_passed_over_ahead_of_the_first_answer(self):
        events = [("rule out", output, (4, 0)) for output in (0, 1)]
        self.check_told((0, 0, 1, 1, 0), FIVE, events, "next_input")
        self.check_told(4, FIVE, events, "answer", (0, 1))
        self.check_told((0, 1, 0, 1, 0), FIVE, [*events, ("answer", (0, 1))], "next_input")
        # An output of an input that tells nothing is not asked for, also behind it.
        events = [*events, ("answer", (0, 1)), ("answer", (1, 1))]
        self.check_told(None, FIVE, events, "next_input")
        self.check_told(((1, 0), (3, 0)), FIVE, events, "sure")

    def test_an_answered_input_is_not_next_again(self):
        learner = Learner(FOUR)
        asked = []
        while learner.next_input() is not None:
            asked.append(learner.next_input())
            learner.answer((1,))
        self.assertEqual(asked, list(plan_inputs(FOUR)))
        self.assertEqual(learner.sure(), ((0, 1),))

    def test_no_input(self):
        for output in ((), (0, 0), (0,), (0, 9), (2, 2)):
            self.check_wrong(NoInput, {}, EXAMPLE, [("answer", (0, 1))], "answer", output)
            self.check_wrong(NoInput, {}, NO_SOURCE, (), "answer", output)
            self.check_wrong(NoInput, {}, NO_OUTPUTS, (), "answer", output)
            self.check_wrong(NoInput, {}, ONE_SOURCE, (), "answer", output)

    def test_bad_outputs_ahead_of_no_wiring(self):
        wanted = {"number": 0, "reason": "length"}
        for output in ((), (0,), (2,), (9,), (0, 0, 0), (9, 9, 9)):
            self.check_wrong(BadOutputs, wanted, EXAMPLE, (), "answer", output)
            self.check_wrong(BadOutputs, wanted, TURNED, [("answer", (2, 0))], "answer", output)
        wanted = {"number": 0, "reason": "symbol"}
        for output in ((0, 3), (3, 0), (-1, 0), (2, -1), (9, 9)):
            self.check_wrong(BadOutputs, wanted, EXAMPLE, (), "answer", output)
            self.check_wrong(BadOutputs, wanted, TURNED, [("answer", (2, 0))], "answer", output)

    def test_no_wiring(self):
        for output in ((0, 2), (2, 0), (2, 2)):
            self.check_wrong(NoWiring, {}, EXAMPLE, (), "answer", output)
        self.check_wrong(NoWiring, {}, EXAMPLE, [("rule out", 1, (0, 0))], "answer", (1, 0))
        self.check_told(1, EXAMPLE, [("rule out", 1, (0, 0))], "answer", (1, 1))

    def test_what_was_passed_may_be_changed_afterwards(self):
        learner = Learner(EXAMPLE)
        output, source = [0, 1], [1, 0]
        learner.rule_out(0, source)
        learner.answer(output)
        before = seen(learner)
        output[0] = source[0] = 2
        output.pop()
        self.assertEqual(seen(learner), before)
        self.assertEqual(learner.events(), (("rule out", 0, (1, 0)), ("answer", (0, 1))))

    def test_what_was_told_stays_as_it_is(self):
        learner = Learner(TURNED)
        told = learner.left(), learner.events()
        before = look_of(told)
        learner.answer((0, 1))
        self.assertEqual(look_of(told), before)


class RuleOutTest(LearnerCase):
    def test_example_of_the_document(self):
        self.check_told(((0, 1),), EXAMPLE, (), "inputs")
        learner = Learner(EXAMPLE)
        self.assertEqual(learner.rule_out(0, (0, 0)), 2)
        self.assertEqual(learner.rule_out(1, (0, 0)), 1)
        self.assertEqual(learner.left(), (((1, 0),), ((1, 0),)))
        self.assertIsNone(learner.next_input())
        self.assertEqual(learner.sure(), ((1, 0), (1, 0)))

    def test_how_many_wirings_are_left(self):
        self.check_told(8 * 9, TURNED, (), "rule_out", 1, (1, 2))
        self.check_told(8 * 9, TURNED, (), "rule_out", 0, 2)
        self.check_told(2 * 3, TURNED, [("answer", (2, 0))], "rule_out", 0, (1, 2))
        self.check_told(292 ** 11 * 291, GREAT, (), "rule_out", 11, (7, 23))

    def test_what_is_left(self):
        events = [("rule out", 0, (0, 1)), ("rule out", 1, 2)]
        left = (((0, 0), (0, 2), (1, 0), (1, 1), (1, 2), 0, 1, 2), ((0, 0), (0, 1), (0, 2), (1, 0), (1, 1), (1, 2), 0, 1))
        self.check_told(left, TURNED, events, "left")
        self.check_told((None, None), TURNED, events, "sure")
        self.check_told(tuple(events), TURNED, events, "events")

    def test_a_source_that_is_ruled_out_twice_or_not_left(self):
        events = [("rule out", 0, (0, 1))]
        self.check_told(8 * 9, TURNED, events, "rule_out", 0, (0, 1))
        self.check_told((events[0],) * 2, TURNED, events * 2, "events")
        self.check_told(9, TURNED, [("answer", (2, 0))], "rule_out", 0, (0, 0))
        self.check_told(9, TURNED, [("answer", (2, 0))], "rule_out", 1, 2)
        events = [("answer", (2, 0)), ("rule out", 1, 2)]
        self.check_told(tuple(events), TURNED, events, "events")
        # One event of two that rule the same out is taken back alone.
        learner = learner_of(TURNED, [("rule out", 0, (0, 1))] * 2)
        learner.undo()
        self.assertNotIn((0, 1), learner.left()[0])
        learner.undo()
        self.assertIn((0, 1), learner.left()[0])

    def test_it_is_not_left_behind_later_answers(self):
        events = [("rule out", 0, (1, 2)), ("answer", (2, 0))]
        self.check_told((((0, 2), 2), ((0, 0), (1, 0), 0)), TURNED, events, "left")
        self.check_wrong(NoWiring, {}, TURNED, [*events, ("rule out", 0, 2)], "answer", (1, 1))

    def test_no_output_ahead_of_no_source(self):
        for output in (-1, 2, 3, 12):
            for source in ((0, 0), (5, 5), 9):
                self.check_wrong(NoOutput, {}, EXAMPLE, (), "rule_out", output, source)
        self.check_wrong(NoOutput, {}, NO_OUTPUTS, (), "rule_out", 0, (0, 0))
        self.check_wrong(NoOutput, {}, ONE_SOURCE, (), "rule_out", 3, (0, 0))

    def test_no_source_ahead_of_no_wiring(self):
        events = [("rule out", 0, (0, 0))]
        for source in ((2, 0), (-1, 0), (0, 1), (0, -1), 0, 3, -1):
            self.check_wrong(NoSource, {}, EXAMPLE, events, "rule_out", 0, source)
            self.check_wrong(NoSource, {}, EXAMPLE, events, "rule_out", 1, source)
        self.check_wrong(NoSource, {}, NO_SOURCE, (), "rule_out", 0, (0, 0))

    def test_no_wiring(self):
        self.check_wrong(NoWiring, {}, EXAMPLE, [("rule out", 0, (0, 0))], "rule_out", 0, (1, 0))
        self.check_told(2, EXAMPLE, [("rule out", 0, (0, 0))], "rule_out", 0, (0, 0))
        self.check_wrong(NoWiring, {}, ONE_SOURCE, (), "rule_out", 1, (0, 0))
        self.check_wrong(NoWiring, {}, EXAMPLE, [("answer", (0, 1))], "rule_out", 1, (1, 0))
        self.check_told(1, EXAMPLE, [("answer", (0, 1))], "rule_out", 0, (1, 0))


class UndoTest(LearnerCase):
    def test_nothing_to_undo(self):
        for family in (EXAMPLE, TURNED, NO_OUTPUTS, NO_SOURCE):
            self.check_wrong(NothingToUndo, {}, family, (), "undo")
        learner = learner_of(EXAMPLE, [("rule out", 0, (0, 0))])
        learner.undo()
        with self.assertRaises(NothingToUndo):
            learner.undo()

    def test_the_last_event_is_told(self):
        events = [("answer", (2, 0)), ("rule out", 0, (1, 2)), ("answer", (0, 1))]
        for many in (1, 2, 3):
            self.check_told(events[many - 1], TURNED, events[:many], "undo")
        learner = Learner(TURNED)
        learner.rule_out(1, [1, 1])
        self.assertEqual(look_of(learner.undo()), look_of(("rule out", 1, (1, 1))))
        learner.answer([2, 0])
        self.assertEqual(look_of(learner.undo()), look_of(("answer", (2, 0))))

    def test_all_is_as_it_was(self):
        events = [("rule out", 0, (1, 1)), ("answer", (2, 0)), ("rule out", 0, (1, 2)), ("answer", (0, 1))]
        learner = Learner(TURNED)
        stages = [seen(learner)]
        for name, *parts in events:
            {"answer": learner.answer, "rule out": learner.rule_out}[name](*parts)
            stages.append(seen(learner))
        for stage in reversed(stages[:-1]):
            learner.undo()
            self.assertEqual(seen(learner), stage)

    def test_an_input_may_be_answered_again_and_otherwise(self):
        learner = learner_of(TURNED, [("answer", (2, 0))])
        learner.undo()
        self.assertEqual(learner.next_input(), (0, 0))
        self.assertEqual(learner.answer((1, 1)), 9)
        self.assertEqual(learner.left(), (((0, 1), (1, 1), 1),) * 2)

    def test_an_input_that_was_passed_over_may_be_next_again(self):
        learner = learner_of(FIVE, [("rule out", output, (4, 0)) for output in (0, 1)])
        self.assertEqual(learner.next_input(), (0, 0, 1, 1, 0))
        learner.undo()
        self.assertEqual(learner.next_input(), (0, 0, 0, 0, 1))
        # Also if another one was answered in its place, and that answer is taken back first.
        events = [("rule out", output, (4, 0)) for output in (0, 1)]
        learner = learner_of(FIVE, [*events, ("answer", (0, 1))])
        self.assertEqual(learner.next_input(), (0, 1, 0, 1, 0))
        learner.undo()
        self.assertEqual(learner.next_input(), (0, 0, 1, 1, 0))
        learner.undo()
        self.assertEqual(learner.next_input(), (0, 0, 0, 0, 1))

    def test_a_call_that_raises_an_error_is_no_event(self):
        learner = learner_of(EXAMPLE, [("rule out", 0, (0, 0))])
        for call in (lambda: learner.answer((2, 2)), lambda: learner.rule_out(0, (1, 0)), lambda: learner.answer(())):
            with self.assertRaises(ValueError):
                call()
        self.assertEqual(learner.undo(), ("rule out", 0, (0, 0)))
        self.assertEqual(learner.events(), ())


class WholeRunTest(LearnerCase):
    def test_answered_with_what_a_wiring_gives(self):
        for family in (*SMALL_FAMILIES, EXAMPLE, FOUR):
            for wiring in all_wirings(family):
                learner = Learner(family)
                answers = 0
                while learner.next_input() is not None:
                    many = learner.answer(applied(family, wiring, learner.next_input()))
                    self.assertEqual(many, learner.wiring_count())
                    answers += 1
                self.assertEqual(learner.sure(), wiring)
                self.assertEqual(learner.wiring_count(), 1)
                self.assertLessEqual(answers, len(learner.inputs()))

    def test_the_greatest_family(self):
        wiring = tuple((output, 2 * output) for output in range(10)) + (3, 0)
        learner = Learner(GREAT)
        while learner.next_input() is not None:
            learner.answer(list(applied(GREAT, wiring, learner.next_input())))
        self.assertEqual(learner.sure(), wiring)
        self.assertEqual(len(learner.events()), len(plan_inputs(GREAT)))
        while learner.events():
            learner.undo()
        self.assertEqual(learner.wiring_count(), 292 ** 12)

    def test_against_sources_that_are_left_by_hand(self):
        chosen = random.Random(3)
        for family in [part for part in SMALL_FAMILIES if part.outputs and part.sources] + [FOUR, FIVE, TURNED]:
            for _ in range(10):
                self.check_random_events(family, chosen)

    def check_random_events(self, family, chosen):
        learner = Learner(family)
        # What was taken: for answers the input with them, for ruled out sources None.
        taken = []
        for _ in range(12):
            answered = [part for part in taken if part[0] is not None]
            ruled_out = [part[1] for part in taken if part[0] is None]
            left = left_by_hand(family, [part[0] for part in answered], [part[1] for part in answered], ruled_out)
            self.assertEqual(learner.left(), left)
            asked = [part[0] for part in answered]
            plan = plan_inputs(family)
            coming = [given for given in plan if given not in asked and not tells_nothing(family, given, left)]
            self.assertEqual(learner.next_input(), coming[0] if coming else None)
            if not coming:
                self.assertLessEqual(learner.wiring_count(), 1)
            kind = chosen.choice(("answer", "answer", "rule out", "rule out", "undo"))
            if kind == "answer" and coming:
                output = tuple(shown_by_hand(family, chosen.choice(sources), coming[0]) for sources in left)
                learner.answer(output)
                taken.append((coming[0], output))
            elif kind == "rule out":
                output, source = chosen.randrange(family.outputs), chosen.choice(family.sources)
                if left[output] == (source,):
                    with self.assertRaises(NoWiring):
                        learner.rule_out(output, source)
                else:
                    learner.rule_out(output, source)
                    taken.append((None, (output, source)))
            elif kind == "undo" and taken:
                learner.undo()
                taken.pop()
        self.assertEqual(len(learner.events()), len(taken))


class ReplayedTest(CallCase):
    EVENTS = (("rule out", 0, (1, 1)), ("answer", (2, 0)), ("rule out", 0, 2), ("answer", (0, 1)))

    def seen_behind(self, family, events):
        def replayed_and_seen(family, events):
            return seen(replayed(family, events))

        wanted = seen(learner_of(family, events))
        self.check_call(wanted, replayed_and_seen, family, events)

    def check_bad(self, number, family, events):
        self.check_error(BadEvent, {"number": number}, replayed, family, events)

    def test_a_learner_with_the_same_events(self):
        self.assertIsInstance(replayed(TURNED, self.EVENTS), Learner)
        for many in range(len(self.EVENTS) + 1):
            self.seen_behind(TURNED, self.EVENTS[:many])
        for family in (NO_OUTPUTS, ONE_SOURCE, NO_SOURCE):
            self.seen_behind(family, ())

    def test_the_first_learner_is_not_changed(self):
        first = learner_of(TURNED, self.EVENTS[:2])
        before = seen(first)
        second = replayed(TURNED, first.events())
        self.assertEqual(seen(second), before)
        second.rule_out(0, 2)
        second.undo()
        second.undo()
        self.assertEqual(seen(first), before)

    def test_events_may_be_changed_afterwards(self):
        events = rows_as(self.EVENTS, list, list)
        learner = replayed(TURNED, events)
        before = seen(learner)
        events[1][1][0] = 1
        events.pop()
        self.assertEqual(seen(learner), before)

    def test_bad_event(self):
        for wrong in (
            ("answer", (2,)),
            ("answer", (9, 0)),
            ("rule out", 2, (0, 0)),
            ("rule out", -1, (0, 0)),
            ("rule out", 0, (2, 0)),
            ("rule out", 0, 3),
        ):
            self.check_bad(0, TURNED, [wrong])
            self.check_bad(0, TURNED, [wrong, *self.EVENTS, wrong])
            self.check_bad(2, TURNED, [*self.EVENTS[:2], wrong, wrong, *self.EVENTS[2:]])
            self.check_bad(3, TURNED, [*self.EVENTS[:3], wrong])

    def test_events_that_the_events_ahead_of_them_forbid(self):
        self.check_bad(4, TURNED, [*self.EVENTS, ("answer", (0, 0))])
        self.check_bad(1, EXAMPLE, [("answer", (0, 1)), ("answer", (0, 1))])
        self.check_bad(1, EXAMPLE, [("rule out", 0, (0, 0)), ("rule out", 0, (1, 0)), ("answer", (9, 9))])
        self.check_bad(1, EXAMPLE, [("rule out", 0, (0, 0)), ("answer", (0, 0))])
        self.check_bad(0, NO_OUTPUTS, [("answer", ())])

    def test_all_short_rows_of_events(self):
        family = Family(2, 2, 1, [], [1])
        events = [("answer", (0,)), ("answer", (1,)), ("rule out", 0, (0, 0)), ("rule out", 0, (1, 0)), ("rule out", 0, 1)]
        for row in product(events, repeat=3):
            bad = None
            for many in range(1, 4):
                try:
                    learner_of(family, row[:many])
                except ValueError:
                    bad = many - 1
                    break
            if bad is None:
                self.seen_behind(family, row)
            else:
                self.check_bad(bad, family, row)
