"""Counts: points 8, 9, 13 to 17."""

import unittest
from math import comb

from tellontree.counts import fewest_turns, layer, least_time, next_time, reach
from tellontree.errors import InvalidCount, InvalidRoots, InvalidTime, InvalidTurns, LimitExceeded
from tellontree.machines import Machine
from tests.helper import FULL_ROOTS, FULL_TIME, NO_INTEGERS, TellCase, count_table, horizon, small_trees

BILLION = 10 ** 9
TURNS_TOP = 10 ** 12
MOST_HANDS = 10 ** 30

# One hand more than for FULL_ROOTS: the last root knows one earlier.
OVER_ROOTS = FULL_ROOTS[:4] + [4199302008]


def tuples_until(k, m, turns):
    """Return the number of tuples of k items with a sum of at most m, as point 17 says it."""
    if turns is None:
        return comb(m + k, k)
    total = 0
    for s in range(k + 1):
        if s * turns <= m:
            total += (-1) ** s * comb(k, s) * comb(m - s * turns + k, k)
    return total


def formula(letter, gap, turns, roots, t):
    """Return the number of known hands as the sum that point 17 gives."""
    total = 0
    for root in roots:
        k = 0
        while root + k * letter <= t:
            total += tuples_until(k, (t - root - k * letter) // gap, turns)
            k += 1
    return total


class SmallTrees(TellCase):
    """The answers against the tree itself."""

    def test_reach_layer_and_next_time(self):
        for machine, turns, roots, until, times in small_trees():
            known = sorted(times.values())
            for t in range(until):
                with self.subTest((machine.letter, machine.gap, turns, roots, t)):
                    self.assertEqual(reach(machine, t, turns=turns, roots=roots), len([x for x in known if x <= t]))
                    self.assertEqual(layer(machine, t, turns=turns, roots=roots), known.count(t))
                    later = [x for x in known if x > t]
                    if later:
                        self.assertEqual(next_time(machine, t, turns=turns, roots=roots), later[0])
                    else:
                        self.assertGreater(next_time(machine, t, turns=turns, roots=roots), until)

    def test_least_time(self):
        for machine, turns, roots, _, times in small_trees():
            known = sorted(times.values())
            for n in list(range(1, min(60, len(known)))) + [len(known)]:
                with self.subTest((machine.letter, machine.gap, turns, roots, n)):
                    self.assertEqual(least_time(machine, n, turns=turns, roots=roots), known[n - 1])

    def test_fewest_turns(self):
        done = set()
        for machine, _, _, _, times in small_trees():
            if (machine.letter, machine.gap) not in done:
                done.add((machine.letter, machine.gap))
                for n in range(1, 60):
                    self.check_fewest_turns(machine, n)

    def check_fewest_turns(self, machine, n):
        time = least_time(machine, n)
        turns = 1
        while reach(machine, time, turns=turns) < n:
            turns += 1
        with self.subTest((machine.letter, machine.gap, n)):
            self.assertEqual(fewest_turns(machine, n), turns)
            self.assertEqual(least_time(machine, n, turns=turns), time)

    def test_kinds_of_answers(self):
        machine = Machine.of(3, 2)
        for answer in (reach(machine, 9), layer(machine, 9), next_time(machine, 9), least_time(machine, 9)):
            self.assertIs(type(answer), int)
        self.assertIs(type(fewest_turns(machine, 9)), int)
        self.assertIs(type(layer(machine, 1)), int)

    def test_letter_and_gap_decide_alone(self):
        for one, other in [(Machine(1, 1, 2), Machine.of(3, 2)), (Machine(2, 1, 1), Machine.of(5, 2)),
                           (Machine(3, 0, 3), Machine(0, 6, 3))]:
            for t in range(40):
                self.assertEqual(reach(one, t, turns=3, roots=[0, 2]), reach(other, t, turns=3, roots=[0, 2]))
                self.assertEqual(layer(one, t), layer(other, t))
                self.assertEqual(next_time(one, t), next_time(other, t))
            for n in range(1, 40):
                self.assertEqual(least_time(one, n), least_time(other, n))
                self.assertEqual(fewest_turns(one, n), fewest_turns(other, n))


class Edges(TellCase):

    def test_time_zero(self):
        machine = Machine.of(3, 2)
        self.assertEqual([reach(machine, 0), layer(machine, 0), next_time(machine, 0)], [1, 1, 3])
        roots = (0, 0, 0, 1, 1, 7)
        self.assertEqual([reach(machine, 0, roots=roots), layer(machine, 0, roots=roots)], [3, 3])
        self.assertEqual([next_time(machine, 0, roots=roots), next_time(machine, 0, roots=(0, 0))], [1, 3])
        self.assertEqual([reach(machine, 0, roots=[5]), layer(machine, 0, roots=[5])], [0, 0])
        self.assertEqual(next_time(machine, 0, roots=[5]), 5)

    def test_just_before_and_at_the_gap(self):
        machine = Machine.of(1, 5)
        self.assertEqual([reach(machine, t) for t in (4, 5, 6)], [5, 6, 8])
        self.assertEqual([layer(machine, t) for t in (4, 5, 6)], [1, 1, 2])
        self.assertEqual([reach(machine, t, turns=1) for t in (4, 5, 6)], [5, 6, 7])

    def test_times_without_a_new_hand(self):
        machine = Machine.of(30, 20)
        self.assertEqual([layer(machine, t) for t in (0, 1, 29, 30, 31, 50, 60, 70)], [1, 0, 0, 1, 0, 1, 1, 1])
        self.assertEqual([next_time(machine, t) for t in (0, 29, 30, 49, 50, 59, 60)], [30, 30, 50, 50, 60, 60, 70])

    def test_turns_one_is_a_chain(self):
        for letter, gap in [(1, BILLION), (BILLION, 1), (7, 3), (BILLION, BILLION)]:
            machine = Machine.of(letter, gap)
            for k in range(41):
                t = k * letter
                self.assertEqual(reach(machine, t, turns=1), k + 1)
                self.assertEqual(layer(machine, t, turns=1), 1)
                self.assertEqual(least_time(machine, k + 1, turns=1), t)
                self.assertEqual(next_time(machine, t, turns=1), t + letter if k < 40 else None)

    def test_list_and_tuple_of_roots(self):
        machine = Machine.of(3, 2)
        for t in range(30):
            self.assertEqual(reach(machine, t, roots=[0, 1, 1]), reach(machine, t, roots=(0, 1, 1)))

    def test_several_roots_add_up(self):
        machine = Machine.of(5, 3)
        for roots in [(0, 0), (1, 4, 4), (0, 0, 2, 2, 11, 30)]:
            for t in range(0, 100):
                for turns in (None, 1, 2, TURNS_TOP):
                    wanted = sum(reach(machine, t - root, turns=turns) for root in roots if root <= t)
                    self.assertEqual(reach(machine, t, turns=turns, roots=roots), wanted)


class Horizons(TellCase):

    def test_at_the_horizon_and_one_beyond(self):
        for letter, gap in [(1, BILLION), (3, 500), (BILLION, BILLION), (12, 11)]:
            machine = Machine.of(letter, gap)
            for turns in (None, 1, 2, TURNS_TOP):
                end = horizon(letter, turns)
                for function in (reach, layer, next_time):
                    self.assert_raises(InvalidTime(), function, machine, end + 1, turns=turns)
                    self.assert_raises(InvalidTime(), function, machine, end + 1, turns=turns, roots=[end + 1])
                self.assertIsNone(next_time(machine, end, turns=turns))
                self.assertIsNone(next_time(machine, end, turns=turns, roots=[0, end]))
                self.assertIsNone(next_time(machine, end, turns=turns, roots=[0, end + 1]))
                self.assertEqual(next_time(machine, end - 1, turns=turns), end)

    def test_answers_at_the_horizon(self):
        slow = Machine.of(1, BILLION)
        self.assertEqual([reach(slow, 120), layer(slow, 120)], [121, 1])
        self.assertEqual([reach(slow, 40, turns=5), layer(slow, 40, turns=5)], [41, 1])
        self.assertEqual(reach(Machine.of(1, 1), 120), 2 ** 120)
        self.assertEqual(reach(Machine.of(1, 1), 40, turns=1), 41)
        self.assertEqual(reach(Machine.of(1, 1), 40, turns=10 ** 6), 2 ** 40)

    def test_next_time_none_before_the_horizon(self):
        machine = Machine.of(10, BILLION)
        self.assertIsNone(next_time(machine, 5, roots=[1201]))
        self.assertEqual(next_time(machine, 5, roots=[1200]), 1200)
        self.assertIsNone(next_time(machine, 1193, roots=[3]))
        self.assertEqual(next_time(machine, 1192, roots=[3]), 1193)
        self.assertIsNone(next_time(machine, 393, turns=1, roots=[3]))
        self.assertIsNone(next_time(Machine.of(1, 1), 7, roots=[10 ** 12]))

    def test_roots_behind_the_horizon(self):
        machine = Machine.of(1, BILLION)
        roots = [120, 121, 10 ** 12]
        self.assertEqual([reach(machine, 119, roots=roots), reach(machine, 120, roots=roots)], [0, 1])
        self.assertEqual(least_time(machine, 1, roots=roots), 120)
        self.assert_raises(LimitExceeded("time"), least_time, machine, 2, roots=roots)
        self.assert_raises(LimitExceeded("time"), least_time, machine, 1, roots=[121])
        self.assert_raises(LimitExceeded("time"), least_time, machine, 1, turns=3, roots=[41])
        self.assertEqual(least_time(machine, 1, turns=3, roots=[40]), 40)

    def test_wrong_times(self):
        machine = Machine.of(3, 2)
        for function in (reach, layer, next_time):
            for wrong in NO_INTEGERS + [None, -1, -10 ** 9, 361, 10 ** 50]:
                self.assert_raises(InvalidTime(), function, machine, wrong)
            for wrong in NO_INTEGERS + [None, -1, 121, 360]:
                self.assert_raises(InvalidTime(), function, machine, wrong, turns=4)


class GreatTrees(TellCase):
    """The answers against the facts of point 17."""

    def test_recurrence(self):
        for letter, gap, turns in [(3, 2, None), (3, 2, 1), (3, 2, 2), (2, 5, None), (2, 5, 2), (1, 1, None),
                                   (9, 1, None), (9, 1, 3), (20, 1, 4), (20, 3, 2), (4, 9, 7), (13, 5, 10 ** 12)]:
            machine = Machine.of(letter, gap)
            table = count_table(letter, gap, turns, horizon(letter, turns))
            for t, many in enumerate(table):
                if many <= 10 ** 40:
                    self.assertEqual(reach(machine, t, turns=turns), many, (letter, gap, turns, t))
                else:
                    self.assert_raises(LimitExceeded("count"), reach, machine, t, turns=turns)
                fresh = many - table[t - 1] if t > 0 else 1
                if fresh <= 10 ** 40:
                    self.assertEqual(layer(machine, t, turns=turns), fresh, (letter, gap, turns, t))
                else:
                    self.assert_raises(LimitExceeded("count"), layer, machine, t, turns=turns)

    def test_scaled_machines(self):
        factor = 10 ** 8
        for turns in (None, 1, 2, 3, TURNS_TOP):
            small = Machine.of(5, 3)
            great = small * factor
            for t in range(60):
                for beyond in (0, 1, factor - 1):
                    at = t * factor + beyond
                    self.assertEqual(reach(great, at, turns=turns), reach(small, t, turns=turns))
                    self.assertEqual(layer(great, at, turns=turns), 0 if beyond else layer(small, t, turns=turns))
                    self.assertEqual(next_time(great, at, turns=turns), next_time(small, t, turns=turns) * factor)

    def test_formula(self):
        machines = [Machine.of(letter, gap) for letter, gap in [
            (BILLION, 1), (BILLION, 7), (1, BILLION), (10 ** 6, 999), (999, 10 ** 6)]]
        for machine in machines + [Machine(BILLION, BILLION, 1), Machine(1, BILLION, 1)]:
            for turns in (None, 1, 2, 12, 10 ** 5, BILLION, TURNS_TOP):
                for roots in [(0,), [3, 3, 10 ** 6, 10 ** 6, 2 * 10 ** 9, 10 ** 12]]:
                    self.check_formula(machine, turns, roots)

    def check_formula(self, machine, turns, roots):
        for parts in (1, 5, 9, 10, 11, 19, 20, 25, 30, 31, 35, 44, 45):
            t = min(machine.letter * parts // 10 + parts, horizon(machine.letter, turns))
            wanted = formula(machine.letter, machine.gap, turns, roots, t)
            fresh = wanted - formula(machine.letter, machine.gap, turns, roots, t - 1)
            where = (machine.letter, machine.gap, turns, roots, t)
            self.assertLessEqual(wanted, 10 ** 40)
            self.assertEqual(reach(machine, t, turns=turns, roots=roots), wanted, where)
            self.assertEqual(layer(machine, t, turns=turns, roots=roots), fresh, where)

    def test_next_time_of_great_machines(self):
        machine = Machine.of(BILLION, 1)
        self.assertEqual(next_time(machine, 0), BILLION)
        self.assertEqual(next_time(machine, BILLION - 1), BILLION)
        self.assertEqual(next_time(machine, BILLION), BILLION + 1)
        self.assertEqual(next_time(machine, BILLION, turns=1), 2 * BILLION)
        self.assertEqual(next_time(machine, BILLION, turns=2), BILLION + 1)
        self.assertEqual(next_time(machine, BILLION + 1, turns=2), 2 * BILLION)
        self.assertEqual(next_time(machine, 2 * BILLION + 1, turns=2), 2 * BILLION + 2)
        self.assertEqual(next_time(machine, 2 * BILLION + 2, turns=2), 3 * BILLION)
        self.assertEqual(next_time(machine, 2 * BILLION, turns=TURNS_TOP), 2 * BILLION + 1)
        slow = Machine.of(1, BILLION)
        self.assertEqual([next_time(slow, t) for t in (0, 1, 119, 120)], [1, 2, 120, None])
        self.assertEqual(next_time(machine, 5, roots=[0, 9, 9, 10 ** 12]), 9)
        self.assertEqual(next_time(machine, BILLION + 8, turns=5, roots=[0, 9, 9, 10 ** 12]), BILLION + 9)

    def test_next_time_is_the_next_layer(self):
        for letter, gap, turns in [(10 ** 6, 7, 3), (7, 10 ** 6, 3), (10 ** 6, 999983, None), (10 ** 6, 999983, 2)]:
            machine = Machine.of(letter, gap)
            t = 0
            for _ in range(30):
                later = next_time(machine, t, turns=turns)
                self.assertGreater(layer(machine, later, turns=turns), 0)
                self.assertEqual(reach(machine, later - 1, turns=turns), reach(machine, t, turns=turns))
                t = later


class CountLimit(TellCase):

    def test_reach_at_the_limit(self):
        machine = Machine.of(BILLION, 1)
        for turns in (None, TURNS_TOP):
            self.assertEqual(reach(machine, FULL_TIME, turns=turns, roots=FULL_ROOTS), 10 ** 40)
            self.assert_raises(LimitExceeded("count"), reach, machine, FULL_TIME, turns=turns, roots=OVER_ROOTS)
            self.assert_raises(LimitExceeded("count"), reach, machine, FULL_TIME + 1, turns=turns, roots=FULL_ROOTS)

    def test_one_root_more_at_the_limit(self):
        machine = Machine.of(BILLION, 1)
        self.assert_raises(LimitExceeded("count"), reach, machine, FULL_TIME, roots=FULL_ROOTS + [FULL_TIME])
        roots = FULL_ROOTS[:4] + [4199302010, FULL_TIME]
        self.assertEqual(reach(machine, FULL_TIME, roots=roots), 10 ** 40)
        self.assertEqual(reach(machine, FULL_TIME, roots=roots[:5]), 10 ** 40 - 1)

    def test_layer_at_the_limit(self):
        # The gap is 1, so each hand that is known begins a sending at each time: a
        # letter later just as many become known.
        machine = Machine.of(BILLION, 1)
        at = FULL_TIME + BILLION
        for turns in (None, TURNS_TOP):
            self.assertEqual(layer(machine, at, turns=turns, roots=FULL_ROOTS), 10 ** 40)
            self.assert_raises(LimitExceeded("count"), layer, machine, at, turns=turns, roots=OVER_ROOTS)
            self.assert_raises(LimitExceeded("count"), layer, machine, at + 1, turns=turns, roots=FULL_ROOTS)

    def test_layer_counts_that_time_alone(self):
        machine = Machine.of(BILLION, 1)
        self.assertLess(layer(machine, FULL_TIME + 1, roots=FULL_ROOTS), 10 ** 40)
        self.assert_raises(LimitExceeded("count"), reach, machine, FULL_TIME + 1, roots=FULL_ROOTS)

    def test_far_beyond_the_limit(self):
        machine = Machine.of(BILLION, 1)
        for turns in (None, 11, 10 ** 9, TURNS_TOP):
            end = horizon(BILLION, turns)
            for roots in ((0,), [0, 0, 1, 1, 1, 10 ** 12]):
                self.assert_raises(LimitExceeded("count"), reach, machine, end, turns=turns, roots=roots)
        for turns in (None, 10 ** 9, TURNS_TOP):
            self.assert_raises(LimitExceeded("count"), layer, machine, horizon(BILLION, turns), turns=turns)


class LeastTimes(TellCase):

    def test_it_is_the_least_time(self):
        counts = [1, 2, 3, 10, 99, 10 ** 6, 10 ** 12, 10 ** 20 + 7, MOST_HANDS - 1, MOST_HANDS]
        for letter, gap in [(1, 1), (3, 2), (BILLION, 1), (BILLION, 999), (10 ** 5, 17), (5, 6)]:
            machine = Machine.of(letter, gap)
            for turns in (None, 20, TURNS_TOP):
                for roots in [(0,), [0, 0], [0, 1, 1, 4, 100, 100]]:
                    for n in counts:
                        self.check_least_time(machine, n, turns, roots)

    def check_least_time(self, machine, n, turns, roots):
        end = horizon(machine.letter, turns)
        where = (machine.letter, machine.gap, n, turns, roots)
        if formula(machine.letter, machine.gap, turns, roots, end) < n:
            self.assert_raises(LimitExceeded("time"), least_time, machine, n, turns=turns, roots=roots)
            return
        time = least_time(machine, n, turns=turns, roots=roots)
        self.assertLessEqual(time, end, where)
        self.assertGreaterEqual(formula(machine.letter, machine.gap, turns, roots, time), n, where)
        self.assertLess(formula(machine.letter, machine.gap, turns, roots, time - 1), n, where)

    def test_one_hand_is_the_first_root(self):
        machine = Machine.of(3, 2)
        self.assertEqual(least_time(machine, 1), 0)
        self.assertEqual(least_time(machine, 1, roots=[7, 8]), 7)
        self.assertEqual([least_time(machine, n, roots=[7, 8]) for n in (2, 3)], [8, 10])
        self.assertEqual([least_time(machine, n, roots=(0, 0, 0)) for n in (1, 2, 3, 4)], [0, 0, 0, 3])

    def test_great_letter(self):
        machine = Machine.of(BILLION, 1)
        self.assertEqual(least_time(machine, 2), BILLION)
        self.assertEqual(least_time(machine, 10 ** 6), BILLION + 10 ** 6 - 2)
        self.assertEqual(least_time(machine, BILLION + 1), 2 * BILLION - 1)
        self.assertEqual(least_time(machine, BILLION + 2), 2 * BILLION)
        self.assertEqual(least_time(machine, BILLION + 3), 2 * BILLION)

    def test_limit_just_where_it_is_due(self):
        slow = Machine.of(1, BILLION)
        self.assertEqual(least_time(slow, 121), 120)
        self.assert_raises(LimitExceeded("time"), least_time, slow, 122)
        for turns in (1, 2, TURNS_TOP):
            self.assertEqual(least_time(slow, 41, turns=turns), 40)
            self.assert_raises(LimitExceeded("time"), least_time, slow, 42, turns=turns)
        fast = Machine.of(BILLION, 1)
        self.assertEqual(least_time(fast, 41, turns=1), 40 * BILLION)
        self.assert_raises(LimitExceeded("time"), least_time, fast, 42, turns=1)
        # With two turns the hands of depth k are known from k letters on to k later.
        self.assertEqual(least_time(fast, 2 ** 40, turns=2), 40 * BILLION)
        self.assert_raises(LimitExceeded("time"), least_time, fast, 2 ** 40 + 1, turns=2)
        self.assertEqual(least_time(slow, 242, roots=[0, 0]), 120)
        self.assert_raises(LimitExceeded("time"), least_time, slow, 243, roots=[0, 0])
        self.assertEqual(least_time(slow, 241, roots=[0, 1]), 120)
        self.assert_raises(LimitExceeded("time"), least_time, slow, 242, roots=[0, 1])
        self.assert_raises(LimitExceeded("time"), least_time, slow, MOST_HANDS)

    def test_limit_of_the_recurrence(self):
        for letter, gap, turns in [(2, 9, None), (2, 9, 2), (3, 2, 1), (3, 2, 2), (1, 30, None)]:
            machine = Machine.of(letter, gap)
            most = count_table(letter, gap, turns, horizon(letter, turns))[-1]
            self.assertLess(most, MOST_HANDS)
            self.assertLessEqual(least_time(machine, most, turns=turns), horizon(letter, turns))
            self.assert_raises(LimitExceeded("time"), least_time, machine, most + 1, turns=turns)

    def test_wrong_counts(self):
        machine = Machine.of(1, 1)
        for wrong in NO_INTEGERS + [None, 0, -1, MOST_HANDS + 1, 10 ** 40]:
            self.assert_raises(InvalidCount(), least_time, machine, wrong)
            self.assert_raises(InvalidCount(), least_time, machine, wrong, turns=1, roots=[10 ** 12])
        self.assertEqual([least_time(machine, 1), least_time(machine, MOST_HANDS)], [0, 100])


class FewestTurns(TellCase):

    def test_it_is_the_least(self):
        for letter, gap in [(1, 1), (3, 2), (2, 3), (BILLION, 1), (BILLION, BILLION), (10 ** 6, 331), (1, 7)]:
            machine = Machine.of(letter, gap)
            for n in (1, 2, 3, 50, 1000, 10 ** 6, 10 ** 9 + 7, 10 ** 11, 10 ** 20, 10 ** 25, MOST_HANDS):
                self.check_fewest(machine, n)

    def check_fewest(self, machine, n):
        try:
            time = least_time(machine, n)
        except LimitExceeded:
            time = None
        if time is None or time > 40 * machine.letter:
            self.assert_raises(LimitExceeded("time"), fewest_turns, machine, n)
            return
        turns = fewest_turns(machine, n)
        where = (machine.letter, machine.gap, n)
        self.assertEqual(least_time(machine, n, turns=turns), time, where)
        if turns > 1:
            self.assertLess(reach(machine, time, turns=turns - 1), n, where)

    def test_a_star(self):
        machine = Machine.of(BILLION, 1)
        self.assertEqual([fewest_turns(machine, n) for n in (1, 2, 3, 10, BILLION, BILLION + 1)],
                         [1, 1, 2, 9, BILLION - 1, BILLION])

    def test_a_chain_at_the_limit(self):
        machine = Machine.of(1, BILLION)
        self.assertEqual([fewest_turns(machine, n) for n in (1, 2, 40, 41)], [1, 1, 1, 1])
        for n in (42, 121, 122, MOST_HANDS):
            self.assert_raises(LimitExceeded("time"), fewest_turns, machine, n)

    def test_limit_just_where_it_is_due(self):
        # Forty letters later 2 ** 40 hands are known, one time unit later twice as many.
        machine = Machine.of(1, 1)
        self.assertEqual(least_time(machine, 2 ** 40), 40)
        self.assertEqual(fewest_turns(machine, 2 ** 40), 40)
        self.assert_raises(LimitExceeded("time"), fewest_turns, machine, 2 ** 40 + 1)

    def test_wrong_counts(self):
        machine = Machine.of(1, BILLION)
        for wrong in NO_INTEGERS + [None, 0, -1, MOST_HANDS + 1]:
            self.assert_raises(InvalidCount(), fewest_turns, machine, wrong)


class TurnsAndRoots(TellCase):
    """Point 8, for each function that counts."""

    def calls(self):
        machine = Machine.of(3, 2)
        return [(function, machine, 5) for function in (reach, layer, next_time, least_time)]

    def test_right_turns(self):
        for function, machine, number in self.calls():
            for turns in (None, 1, 2, TURNS_TOP):
                function(machine, number, turns=turns)

    def test_wrong_turns(self):
        for function, machine, number in self.calls():
            for wrong in NO_INTEGERS + [0, -1, TURNS_TOP + 1, 10 ** 30]:
                self.assert_raises(InvalidTurns(), function, machine, number, turns=wrong)

    def test_right_roots(self):
        for function, machine, number in self.calls():
            for roots in ((0,), [0], [0] * 6, (0, 0, 1, 1, 5, 10 ** 12), [3, 4]):
                function(machine, number, roots=roots)

    def test_roots_that_are_no_list_of_one_to_six(self):
        wrong_roots = [thing for thing in NO_INTEGERS if not isinstance(thing, (list, tuple))]
        for function, machine, number in self.calls():
            for wrong in wrong_roots + [None, 0, (), [], (0,) * 7, [0] * 7, "0", {0: 0}, range(3), ["x"] * 7]:
                self.assert_raises(InvalidRoots(-1), function, machine, number, roots=wrong)

    def test_first_wrong_root(self):
        cases = [
            ([-1], 0), ([10 ** 12 + 1], 0), ([0, -1], 1), ([5, 4], 1), ([0, 0, 10 ** 12 + 1], 2), ([1, 2, 3, 4, 5, 4], 5),
            ([3, 2, 1], 1), ((0, 1, 0, -1), 2), ([0, "1", -1], 1), ([5, 4, None], 1), ([None, 4, 3], 0),
        ]
        for function, machine, number in self.calls():
            for wrong, at in cases:
                self.assert_raises(InvalidRoots(at), function, machine, number, roots=wrong)

    def test_items_that_are_no_integers(self):
        for function, machine, number in self.calls():
            for wrong in NO_INTEGERS + [None]:
                self.assert_raises(InvalidRoots(0), function, machine, number, roots=[wrong])
                self.assert_raises(InvalidRoots(1), function, machine, number, roots=(0, wrong, 0))
                self.assert_raises(InvalidRoots(5), function, machine, number, roots=[0, 0, 1, 1, 1, wrong])


if __name__ == "__main__":
    unittest.main()
