"""Wirings applied many times: powers, tails and lengths, what undoes them ([B5], [B6])."""

from itertools import product
from math import lcm

from moveseen.families import BadWiring, Family
from moveseen.wirings import (
    BadTimes,
    NotSquare,
    applied,
    joined,
    power,
    repetition,
    times_to,
    undone,
    untouched,
)
from tests.helpers import CallCase

MOST = 10 ** 60

EXAMPLE = Family(4, 3, 3, [(1, 0, 3, 2)], [2, 3])
TURNED = Family(3, 2, 2, [(1, 2, 0)], [0, 1, 2])
SIX = Family(3, 2, 2, [(1, 0, 2), (0, 2, 1)], [])
PLAIN = Family(2, 3, 3, [], [0, 1])
SMALL = (EXAMPLE, TURNED, SIX, PLAIN)
WIDE = Family(4, 2, 3, [(1, 0, 2, 3)], [3])
SILENT = Family(2, 3, 0, [(1, 0)], [])
BARE = Family(2, 0, 0, [], [])
LONE = Family(2, 1, 1, [(1, 0)], [])
TWELVE = Family(5, 12, 12, [(1, 2, 3, 4, 0)], [0, 1, 2, 3, 4])

TAILED = ((1, 1), (2, 0), 3)
ROUND = ((1, 1), (2, 0), (0, 0))
# Cycles of 3, 4 and 5 positions; the change round the first one has the order 5, the others 1.
CYCLES = (
    (1, 1), (2, 0), (0, 0),
    (4, 2), (5, 3), (6, 0), (3, 0),
    (8, 0), (9, 0), (10, 0), (11, 0), (7, 0),
)
# Each position leads into the next one, the last one into a constant.
CHAIN = (*((output + 1, 1) for output in range(11)), 4)
# Each position leads into the next one, the last one into itself with a change.
HOOKED = (*((output + 1, 0) for output in range(11)), (11, 1))


def wirings_of(family):
    return list(product(family.sources, repeat=family.outputs))


def powers_of(family, wiring):
    """All wirings that a wiring is, applied 0 times, once and so on, and where they begin anew."""
    made = []
    fresh = untouched(family)
    while fresh not in made:
        made.append(fresh)
        fresh = joined(family, fresh, wiring)
    return made, made.index(fresh)


class PowerTest(CallCase):
    def test_examples_of_the_document(self):
        self.check_call(untouched(EXAMPLE), power, EXAMPLE, TAILED, 0)
        self.check_call(TAILED, power, EXAMPLE, TAILED, 1)
        self.check_call(((2, 1), 3, 3), power, EXAMPLE, TAILED, 2)
        for times in (3, 4, 5, 100, MOST):
            self.check_call((2, 3, 3), power, EXAMPLE, TAILED, times)

    def test_each_wiring_some_times(self):
        for family in SMALL:
            for wiring in wirings_of(family):
                made, start = powers_of(family, wiring)
                for times, wanted in enumerate((*made, *made[start:])):
                    self.assertEqual(power(family, wiring, times), wanted)

    def test_some_times_give_what_as_many_times_applied_give(self):
        for family in (TURNED, SIX):
            for wiring in wirings_of(family):
                given = (0, 2)
                for times in range(8):
                    self.assertEqual(applied(family, power(family, wiring, times), (0, 2)), given)
                    given = applied(family, wiring, given)

    def test_far_times(self):
        for family in SMALL:
            for wiring in wirings_of(family):
                made, start = powers_of(family, wiring)
                for times in (10 ** 18 + 7, MOST - 1, MOST):
                    wanted = made[start + (times - start) % (len(made) - start)]
                    self.assertEqual(power(family, wiring, times), wanted)

    def test_round_far_times(self):
        self.check_call(power(EXAMPLE, ROUND, MOST % 6), power, EXAMPLE, ROUND, MOST)
        self.check_call(power(TWELVE, CYCLES, MOST % 60), power, TWELVE, CYCLES, MOST)
        self.check_call(untouched(TWELVE), power, TWELVE, CYCLES, 60 * 10 ** 58)
        self.check_call(CYCLES, power, TWELVE, CYCLES, 60 * 10 ** 58 + 1)
        self.check_call(((0, 1),), power, LONE, ((0, 1),), MOST - 1)

    def test_several_into_one_far_times(self):
        # Each time behind the first eleven ones adds the change of the last output once more.
        for times in (MOST, MOST - 1, MOST - 2, 11, 12, 30):
            wanted = tuple((11, (times - 11 + output) % 5) for output in range(12))
            self.check_call(wanted, power, TWELVE, HOOKED, times)
        self.check_call(((0, 0), (0, 0)), power, SIX, ((0, 0), (0, 0)), MOST)
        self.check_call(((0, 0), (0, 1)), power, SIX, ((0, 0), (0, 1)), MOST)

    def test_constants_far_times(self):
        wanted = tuple((4 + 11 - output) % 5 for output in range(12))
        self.check_call(wanted, power, TWELVE, CHAIN, MOST)
        self.check_call(wanted, power, TWELVE, CHAIN, 12)
        self.check_call((0, 1, 2, 3, 4) * 2 + (0, 1), power, TWELVE, (0, 1, 2, 3, 4) * 2 + (0, 1), MOST)

    def test_bad_times(self):
        for times in (-1, -MOST, MOST + 1, 10 ** 61):
            self.check_error(BadTimes, {}, power, EXAMPLE, TAILED, times)
            self.check_error(BadTimes, {}, power, BARE, (), times)

    def test_bad_times_come_behind_the_others(self):
        for times in (-1, 0, MOST + 1):
            self.check_error(NotSquare, {}, power, WIDE, (3, 3, 3), times)
            self.check_error(NotSquare, {}, power, WIDE, (9,), times)
            self.check_error(NotSquare, {}, power, SILENT, (), times)
            wanted = {"output": 1, "reason": "constant"}
            self.check_error(BadWiring, wanted, power, TURNED, (0, 3), times)
            wanted = {"output": None, "reason": "length"}
            self.check_error(BadWiring, wanted, power, TURNED, (0,), times)


class RepetitionTest(CallCase):
    def test_examples_of_the_document(self):
        self.check_call((3, 1), repetition, EXAMPLE, TAILED)
        self.check_call((0, 6), repetition, EXAMPLE, ROUND)

    def test_each_wiring(self):
        for family in SMALL:
            for wiring in wirings_of(family):
                made, start = powers_of(family, wiring)
                self.assertEqual(repetition(family, wiring), (start, len(made) - start))

    def test_untouched(self):
        for family in (*SMALL, BARE, LONE, TWELVE):
            self.check_call((0, 1), repetition, family, untouched(family))

    def test_tails_up_to_the_number_of_positions(self):
        for tail in range(13):
            wiring = (*((output, 0) for output in range(12 - tail)), *CHAIN[12 - tail:])
            self.check_call((tail, 1), repetition, TWELVE, wiring)
        self.check_call((12, 1), repetition, TWELVE, CHAIN)
        self.check_call((11, 5), repetition, TWELVE, HOOKED)
        self.check_call((1, 1), repetition, TWELVE, ((0, 0),) * 12)
        self.check_call((1, 5), repetition, TWELVE, ((0, 3),) * 12)
        self.check_call((1, 1), repetition, TWELVE, (2,) * 12)

    def test_lengths_of_several_cycles(self):
        self.check_call((0, lcm(3 * 5, 4, 5)), repetition, TWELVE, CYCLES)
        turned = (*CYCLES[:3], (4, 2), (5, 2), *CYCLES[5:])
        self.check_call((0, lcm(3 * 5, 4 * 5, 5)), repetition, TWELVE, turned)
        turned = (*CYCLES[:11], (7, 3))
        self.check_call((0, lcm(3 * 5, 4, 5 * 5)), repetition, TWELVE, turned)
        broken = (*CYCLES[:11], 0)
        self.check_call((5, lcm(3 * 5, 4)), repetition, TWELVE, broken)

    def test_change_round_a_cycle(self):
        # Two swaps make a change of the order 3, or move nothing.
        swap, other = SIX.changes.index((1, 0, 2)), SIX.changes.index((0, 2, 1))
        self.check_call((0, 6), repetition, SIX, ((1, swap), (0, other)))
        self.check_call((0, 2), repetition, SIX, ((1, swap), (0, swap)))
        self.check_call((0, 4), repetition, SIX, ((1, swap), (0, 0)))
        self.check_call((0, 6), repetition, SIX, ((0, swap), (1, SIX.changes.index((1, 2, 0)))))

    def test_a_great_length(self):
        # 21 changes of 7 symbols, with the orders 1, 3 and 7.
        family = Family(7, 12, 12, [(1, 2, 3, 4, 5, 6, 0), (0, 2, 4, 6, 1, 3, 5)], [])
        turn, third = family.changes.index((1, 2, 3, 4, 5, 6, 0)), family.changes.index((0, 2, 4, 6, 1, 3, 5))
        wiring = (
            (1, turn), (2, 0), (3, 0), (4, 0), (0, 0), (6, 0), (7, 0), (8, 0), (5, 0),
            (10, third), (11, 0), (9, 0),
        )
        self.check_call((0, lcm(5 * 7, 4, 3 * 3)), repetition, family, wiring)
        last = power(family, wiring, 1259)
        self.check_call(1259, times_to, family, wiring, last)
        self.check_call(last, undone, family, wiring)

    def test_wrong_arguments(self):
        self.check_error(NotSquare, {}, repetition, WIDE, (3, 3, 3))
        self.check_error(NotSquare, {}, repetition, WIDE, ())
        self.check_error(NotSquare, {}, repetition, SILENT, (9,))
        for wiring, output, reason in (
            ((0,), None, "length"), ((0, 3), 1, "constant"),
            (((-1, 0), 9), 0, "position"), ((0, (0, 3)), 1, "change"),
        ):
            wanted = {"output": output, "reason": reason}
            self.check_error(BadWiring, wanted, repetition, TURNED, wiring)


class UndoneTest(CallCase):
    def test_example_of_the_document(self):
        self.check_call(((2, 0), (0, 1), (1, 0)), undone, EXAMPLE, ROUND)
        self.check_call(None, undone, EXAMPLE, TAILED)

    def test_each_wiring(self):
        for family in SMALL:
            unmoved = untouched(family)
            for wiring in wirings_of(family):
                back = undone(family, wiring)
                positions = {source[0] for source in wiring if isinstance(source, tuple)}
                self.assertEqual(back is None, len(positions) < family.positions)
                self.assertEqual(back is None, repetition(family, wiring)[0] > 0)
                if back is not None:
                    self.assertEqual(joined(family, wiring, back), unmoved)
                    self.assertEqual(joined(family, back, wiring), unmoved)

    def test_none_only_if_no_wiring_undoes(self):
        for family in (TURNED, SIX):
            rows = wirings_of(family)
            for wiring in rows[::3]:
                makers = [other for other in rows if joined(family, other, wiring) == untouched(family)]
                back = undone(family, wiring)
                self.assertEqual(makers, [] if back is None else [back])

    def test_untouched_and_itself(self):
        self.check_call((), undone, BARE, ())
        self.check_call(untouched(TWELVE), undone, TWELVE, untouched(TWELVE))
        self.check_call(((0, 1),), undone, LONE, ((0, 1),))
        self.check_call(power(TWELVE, CYCLES, 59), undone, TWELVE, CYCLES)

    def test_none(self):
        self.check_call(None, undone, TWELVE, CHAIN)
        self.check_call(None, undone, TWELVE, HOOKED)
        self.check_call(None, undone, TURNED, ((0, 1), (0, 0)))
        self.check_call(None, undone, TURNED, ((0, 1), 1))

    def test_wrong_arguments(self):
        self.check_error(NotSquare, {}, undone, WIDE, (3, 3, 3))
        self.check_error(NotSquare, {}, undone, WIDE, ((9, 9),))
        self.check_error(BadWiring, {"output": None, "reason": "length"}, undone, TURNED, ())
        self.check_error(BadWiring, {"output": 1, "reason": "change"}, undone, TURNED, (2, (1, -1)))


class TimesToTest(CallCase):
    def test_each_pair_of_wirings(self):
        for family in (TURNED, SIX):
            rows = wirings_of(family)
            for wiring in rows:
                made, _ = powers_of(family, wiring)
                for other in rows:
                    wanted = made.index(other) if other in made else None
                    self.assertEqual(times_to(family, wiring, other), wanted)

    def test_no_times(self):
        for family, wiring in ((EXAMPLE, TAILED), (EXAMPLE, ROUND), (TWELVE, CHAIN), (BARE, ())):
            self.check_call(0, times_to, family, wiring, untouched(family))
        self.check_call(0, times_to, EXAMPLE, untouched(EXAMPLE), untouched(EXAMPLE))

    def test_within_the_tail(self):
        self.check_call(1, times_to, EXAMPLE, TAILED, TAILED)
        self.check_call(2, times_to, EXAMPLE, TAILED, ((2, 1), 3, 3))
        self.check_call(3, times_to, EXAMPLE, TAILED, (2, 3, 3))
        self.check_call(7, times_to, TWELVE, CHAIN, power(TWELVE, CHAIN, 7))
        self.check_call(12, times_to, TWELVE, CHAIN, power(TWELVE, CHAIN, MOST))

    def test_within_the_length(self):
        for times in range(6):
            self.check_call(times, times_to, EXAMPLE, ROUND, power(EXAMPLE, ROUND, times + 6))
        for times in (1, 29, 59):
            self.check_call(times, times_to, TWELVE, CYCLES, power(TWELVE, CYCLES, times))
        # The tail is 11 and the length 5, so 15 times is the last new wiring.
        for times in range(10, 16):
            self.check_call(times, times_to, TWELVE, HOOKED, power(TWELVE, HOOKED, times))
        self.check_call(11, times_to, TWELVE, HOOKED, power(TWELVE, HOOKED, 16))

    def test_never(self):
        self.check_call(None, times_to, EXAMPLE, TAILED, ROUND)
        self.check_call(None, times_to, EXAMPLE, ROUND, TAILED)
        self.check_call(None, times_to, EXAMPLE, untouched(EXAMPLE), ((0, 1), (1, 0), (2, 0)))
        self.check_call(None, times_to, TWELVE, CYCLES, CHAIN)

    def test_wrong_arguments(self):
        self.check_error(NotSquare, {}, times_to, WIDE, (3, 3, 3), (3, 3, 3))
        self.check_error(NotSquare, {}, times_to, WIDE, (9,), (9,))
        self.check_error(NotSquare, {}, times_to, SILENT, (), ())
        good = ((0, 0), 2)
        for wrong, output, reason in (
            ((), None, "length"), (((0, 0), 3), 1, "constant"),
            (((2, 5), 3), 0, "position"), ((2, (1, 3)), 1, "change"),
        ):
            wanted = {"output": output, "reason": reason}
            self.check_error(BadWiring, wanted, times_to, TURNED, wrong, good)
            self.check_error(BadWiring, wanted, times_to, TURNED, good, wrong)
            self.check_error(BadWiring, wanted, times_to, TURNED, wrong, (9, 9))
