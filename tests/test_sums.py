"""Sums: points 90 to 97."""

import random
import time
import unittest
from itertools import combinations_with_replacement, product

from tellontree.counts import least_time
from tellontree.errors import InvalidCount, InvalidMachine, InvalidPlan, InvalidTime
from tellontree.machines import Machine
from tellontree.names import first_names, known_at
from tellontree.sums import (
    least_sum_time, least_summers, most_summed, slower, sum_ends, sum_fault, sum_plan)
from tests.helper import NO_INTEGERS, NO_LISTS, TellCase, first_found, least_index, pairs_of, wrong_forms

BILLION = 10 ** 9
LATEST = 10 ** 15
M = Machine(1, 2, 2)
RIGHT = ([(1, 0, 3)], [7, 4])

# Small machines, and machines, hands and times for which all sum plans can be searched.
SMALL = [M, Machine(0, 1, 1), Machine(0, 3, 2), Machine(2, 1, 1), Machine(1, 0, 3), Machine(3, 0, 1), Machine(0, 5, 7)]
SEARCHED = [(0, 1, 1, 3, 6), (0, 1, 1, 4, 4), (1, 2, 2, 3, 10), (1, 0, 1, 3, 8), (1, 0, 1, 4, 7), (2, 0, 1, 3, 12),
            (0, 3, 1, 3, 9), (0, 2, 3, 4, 7), (1, 1, 1, 4, 8), (0, 1, 4, 3, 8), (1, 0, 5, 3, 10), (1, 2, 2, 2, 14)]
GREAT = [Machine(BILLION, BILLION, 1), Machine(BILLION, BILLION, BILLION), Machine(0, 1, BILLION),
         Machine(0, BILLION, 1), Machine(BILLION, 0, 1), Machine(10 ** 8 + 7, 3, 997), Machine(0, 1, 1)]

NO_HANDS = NO_INTEGERS + [None, 0, -1, 41, 100, 10 ** 30]
NO_TIMES = NO_INTEGERS + [None, -1, 10 ** 12 + 1, -10 ** 30, 10 ** 30]
NO_NUMBERS = NO_INTEGERS + [None, 0, -1, 10 ** 12 + 1, -10 ** 30, 10 ** 30]


def can_add(own, received, o, until):
    """Tell whether a hand can do its work, unit of time by unit of time, by the words of point 90.

    A hand is not adding while it is receiving, and a sum is added behind its receiving.
    """
    free = [unit for unit in range(until) if not any(end - o <= unit < end for end in received)]
    for end in sorted(received, reverse=True):
        units = [unit for unit in free if unit >= end]
        if not units:
            return False
        free.remove(units[-1])
    return len(free) >= own - 1


def received_by(letter, rows, hand):
    """Return the times at which the hand receives letters."""
    return [start + letter for _, receiver, start in rows if receiver == hand]


def plain_fault(machine, n, end, rows, own):
    """Return the fault of rows and numbers in the form of a sum plan, by point 92 word by word."""
    letter, gap, o = machine.letter, machine.gap, machine.o
    own_wrong = next((h for h in range(n) if not (1 if h == 0 else 0) <= own[h] <= LATEST), None)
    hand = least_index(rows, lambda at: not 1 <= rows[at][0] <= n - 1 or not 0 <= rows[at][1] <= n - 1
                       or rows[at][0] == rows[at][1])
    senders = [row[0] for row in rows]
    again = least_index(rows, lambda at: senders[at] in senders[:at])
    touched = senders + [row[1] for row in rows]
    idle = next((h for h in range(n) if own[h] == 0 and h in touched), None)
    nobody = next((h for h in range(1, n) if own[h] > 0 and h not in senders), None)
    near = least_index(rows, lambda at: any(
        rows[before][1] == rows[at][1] and abs(rows[before][2] - rows[at][2]) < gap for before in range(at)))
    told = first_found([
        ("own", own_wrong), ("hand", hand), ("again", again), ("idle", idle), ("nobody", nobody), ("gap", near)])
    if told is not None:
        return told
    starts = {sender: start for sender, _, start in rows}
    busy = next((h for h in sorted(starts) if not can_add(own[h], received_by(letter, rows, h), o, starts[h])), None)
    if busy is not None:
        return ("busy", busy)
    return None if can_add(own[0], received_by(letter, rows, 0), o, end) else ("late", 0)


def some_sums(seed, many):
    """Yield a machine, a number of hands, a time, rows and numbers that are nearly a right sum plan, or one."""
    source = random.Random(seed)
    for _ in range(many):
        machine = source.choice(SMALL[:6])
        n = source.randint(1, 5)
        end = source.randint(0, 40)
        hands = list(range(1, n))
        source.shuffle(hands)
        joined, rows, own = [0], [], [source.randint(1, 9)] + [0] * (n - 1)
        for hand in hands:
            if source.random() < 0.8:
                rows.append((hand, source.choice(joined), source.randint(0, max(0, end - machine.letter - 3))))
                own[hand] = source.randint(1, 4)
                joined.append(hand)
        if source.random() < 0.25:
            rows.append((source.randint(0, n), source.randint(-1, n), source.randint(0, end)))
        if rows and source.random() < 0.08:
            rows.pop()
        if source.random() < 0.12:
            own[source.randrange(n)] = source.choice([0, 0, 5, -1, LATEST + 1])
        source.shuffle(rows)
        yield machine, n, end, rows, own


def greatest_own(received, o, until):
    """Return the greatest number of numbers with which a hand can do its work; 0 if there is none."""
    own = 0
    while can_add(own + 1, received, o, until):
        own += 1
    return own


def searched_sums(machine, n, end):
    """Yield the start times, the greatest sums of own and the plans of all ways to send letters."""
    letter = machine.letter
    ways = [[None] + [(hand, receiver, start) for receiver in range(n) if receiver != hand
                      for start in range(end - letter + 1)] for hand in range(1, n)]
    for chosen in product(*ways):
        rows = [row for row in chosen if row is not None]
        starts = {sender: start for sender, _, start in rows}
        if any(receiver > 0 and receiver not in starts for _, receiver, _ in rows):
            continue
        own = [0] * n
        for hand in range(n):
            if hand == 0 or hand in starts:
                own[hand] = greatest_own(received_by(letter, rows, hand), machine.o, end if hand == 0 else starts[hand])
        used = [hand for hand in range(n) if hand == 0 or hand in starts]
        if all(own[hand] > 0 for hand in used) and plain_fault(machine, n, end, rows, own) is None:
            yield rows, own


def slow_times(machine):
    """Return the times at which 39 hands of the slower tree are known, the root left out, by points 10 and 97."""
    letter, gap = machine.letter + 1, max(machine.g, machine.o + 1)
    times = [k * letter + j * gap for k in range(40) for j in range(40) for _ in range(names_with(k, j))]
    return sorted(times)[1:40]


def names_with(k, j):
    """Return how many names have the depth k and the sum j, or 40 if there are more."""
    if k == 0:
        return 1 if j == 0 else 0
    many = 1
    for step in range(1, k):
        many = many * (j + step) // step
    return min(40, many)


class Work(TellCase):

    def test_point_91_against_units_of_time(self):
        # Hand 0 receives from hands that send at these starts, at least the gap apart.
        for machine in SMALL:
            letter, gap = machine.letter, machine.gap
            for k in range(4):
                for waits in combinations_with_replacement(range(4), k):
                    starts = [3 + at * gap + wait for at, wait in enumerate(waits)]
                    rows = [(hand, 0, start) for hand, start in enumerate(starts, start=1)]
                    for own in (1, 2, 3, 9, 30):
                        thing = (rows, [own] + [1] * k)
                        received = [start + letter for start in starts]
                        least = next(end for end in range(500) if can_add(own, received, machine.o, end))
                        self.assertEqual(sum_ends(machine, k + 1, thing), least)
                        self.assertIsNone(sum_fault(machine, k + 1, least, thing))
                        for end in {0, least - 1} - {-1, least}:
                            self.assertEqual(sum_fault(machine, k + 1, end, thing), ("late", 0))

    def test_one_hand(self):
        for own in (1, 2, 7, 10 ** 12):
            self.assertEqual(sum_ends(M, 1, ([], [own])), own - 1)
            self.assertIsNone(sum_fault(M, 1, own - 1, ([], [own])))
            if own > 1:
                self.assertEqual(sum_fault(M, 1, own - 2, ([], [own])), ("late", 0))

    def test_work_of_a_sender(self):
        for own in range(1, 9):
            for start in range(9):
                wrong = None if start >= own - 1 else ("busy", 1)
                self.assertEqual(sum_fault(M, 2, 50, ([(1, 0, start)], [1, own])), wrong)

    def test_a_sender_waits_for_its_letters(self):
        # Hand 2 sends at 0 and hand 1 knows at 4; it adds until 5.
        for start in range(12):
            wrong = None if start >= 5 else ("busy", 1)
            self.assertEqual(sum_fault(M, 3, 50, ([(1, 0, start), (2, 1, 0)], [1, 1, 1])), wrong)
            wrong = None if start >= 8 else ("busy", 1)
            self.assertEqual(sum_fault(M, 3, 50, ([(1, 0, start), (2, 1, 0)], [1, 7, 1])), wrong)

    def test_hands_that_wait_for_each_other(self):
        rows = [(1, 2, 20), (2, 1, 20)]
        self.assertEqual(sum_fault(M, 3, 50, (rows, [1, 1, 1])), ("busy", 1))
        self.assertEqual(sum_fault(M, 3, 50, ([(1, 2, 20), (2, 1, 10)], [1, 1, 1])), ("busy", 2))


class FaultsOfASumPlan(TellCase):

    def assert_fault(self, wanted, n, end, thing, machine=M):
        """Check the fault, and that sum_ends raises it unless it is None or "late"."""
        self.assertEqual(sum_fault(machine, n, end, thing), wanted)
        if wanted is not None and wanted[0] != "late":
            self.assert_raises(InvalidPlan(*wanted), sum_ends, machine, n, thing)
        else:
            self.assertEqual(sum_ends(machine, n, thing) <= end, wanted is None)

    def test_no_fault(self):
        self.assert_fault(None, 2, 8, RIGHT)
        self.assert_fault(None, 2, 10 ** 12, RIGHT)
        for rows in ([(1, 0, 3)], ((1, 0, 3),)):
            for own in ([7, 4, 0], (7, 4, 0)):
                self.assert_fault(None, 3, 8, (rows, own))
        self.assert_fault(None, 1, 0, ([], [1]))
        self.assert_fault(None, 40, 0, ((), [1] + [0] * 39))
        rows = [(hand, 0, hand * 2) for hand in range(1, 40)]
        self.assert_fault(None, 40, 10 ** 6, (rows, [LATEST // 10 ** 10] + [1] * 39))

    def test_no_pair(self):
        others = [[[], [1]], [RIGHT], (RIGHT,), (), ([],), ([], [1], None), ([], [1], []), "ab"]
        for wrong in NO_LISTS + NO_INTEGERS + others:
            if not (isinstance(wrong, tuple) and len(wrong) == 2):
                self.assert_fault(("form", -1), 1, 5, wrong)
                self.assert_fault(("form", -1), 2, 5, wrong)

    def test_form_of_rows(self):
        for wanted, rows in wrong_forms((1, 0, 3), 400):
            for own in ([7, 4], None, [0, 0]):
                self.assert_fault(wanted, 2, 8, (rows, own))
        self.assert_fault(("again", 1), 2, 8, ([(1, 0, 3)] * 400, [7, 4]))

    def test_own(self):
        for wrong in NO_LISTS + [None, [], [7], [7, 4, 1], (7,), [7] * 40]:
            self.assert_fault(("own", -1), 2, 8, ([(9, 9, 3)], wrong))
        for wrong in NO_INTEGERS + [None, -1, LATEST + 1, 10 ** 30]:
            self.assert_fault(("own", 0), 2, 8, ([(9, 9, 3)], [wrong, wrong]))
            self.assert_fault(("own", 1), 2, 8, ([(9, 9, 3)], (7, wrong)))
        self.assert_fault(("own", 0), 2, 8, ([], [0, 0]))
        self.assert_fault(("own", 0), 2, 8, ([(1, 0, 3)], [0, 4]))
        self.assert_fault(("late", 0), 2, 8, ([], [LATEST, 0]))
        self.assert_fault(("busy", 1), 2, 8, ([(1, 0, 3)], [1, LATEST]))

    def test_hand(self):
        for sender, receiver in [(0, 1), (3, 0), (-1, 0), (1, 3), (1, -1), (1, 1), (2, 2), (0, 0), (10 ** 30, 0),
                                 (1, 10 ** 30)]:
            self.assert_fault(("hand", 1), 3, 50, ([(2, 0, 3), (sender, receiver, 3), (9, 9, 9)], [1, 0, 1]))
        self.assert_fault(("hand", 0), 1, 50, ([(1, 0, 3)], [1]))

    def test_again(self):
        self.assert_fault(("again", 1), 3, 50, ([(1, 0, 3), (1, 2, 3)], [1, 1, 0]))
        self.assert_fault(("again", 2), 3, 50, ([(1, 0, 3), (2, 1, 3), (1, 0, 3)], [1, 1, 1]))

    def test_idle(self):
        self.assert_fault(("idle", 1), 3, 50, ([(1, 0, 3)], [1, 0, 1]))
        self.assert_fault(("idle", 2), 3, 50, ([(1, 2, 3)], [1, 1, 0]))
        self.assert_fault(("idle", 1), 4, 50, ([(3, 2, 3), (2, 1, 9)], [1, 0, 0, 0]))
        self.assert_fault(("idle", 2), 4, 50, ([(3, 0, 3), (1, 2, 9)], [1, 1, 0, 0]))

    def test_nobody(self):
        self.assert_fault(("nobody", 1), 2, 50, ([], [1, 1]))
        self.assert_fault(("nobody", 2), 4, 50, ([(1, 0, 3)], [1, 1, 1, 1]))
        self.assert_fault(("nobody", 2), 3, 50, ([(1, 2, 3)], [1, 1, 1]))

    def test_gap(self):
        for first, second in product(range(8), repeat=2):
            wanted = ("gap", 1) if abs(first - second) < 2 else None
            self.assert_fault(wanted, 3, 50, ([(1, 0, first), (2, 0, second)], [1, 1, 1]))
        self.assert_fault(("gap", 2), 4, 50, ([(1, 0, 9), (2, 0, 5), (3, 0, 4)], [1, 1, 1, 1]))
        self.assert_fault(None, 3, 50, ([(1, 0, 9), (2, 1, 4)], [1, 1, 1]))
        rows = [(1, 0, 0), (2, 0, BILLION - 1)]
        self.assert_fault(("gap", 1), 3, 10 ** 12, (rows, [1, 1, 1]), Machine(BILLION, 0, 1))

    def test_late(self):
        self.assert_fault(("late", 0), 2, 7, RIGHT)
        self.assert_fault(("late", 0), 2, 8, ([(1, 0, 3)], [8, 4]))
        self.assert_fault(None, 2, 9, ([(1, 0, 3)], [8, 4]))
        self.assert_fault(("late", 0), 2, 7, ([(1, 0, 3)], [1, 4]))
        self.assert_fault(("late", 0), 2, 10 ** 12, ([(1, 0, LATEST)], [1, 4]))

    def test_kinds_in_pairs(self):
        # A change for each kind of fault, and where the fault then is: None stands for the row that it adds.
        changes = {
            "form": (lambda rows, own: rows.insert(0, None), 0),
            "own": (lambda rows, own: own.__setitem__(2, -1), 2),
            "hand": (lambda rows, own: rows.append((0, 2, 9)), None),
            "again": (lambda rows, own: rows.append((2, 0, 29)), None),
            "idle": (lambda rows, own: rows.append((5, 6, 29)), 5),
            "nobody": (lambda rows, own: own.__setitem__(4, 1), 4),
            "gap": (lambda rows, own: rows.append((7, 0, 12)), None),
            "busy": (lambda rows, own: own.__setitem__(3, 99), 3),
            "late": (lambda rows, own: own.__setitem__(0, 99), 0),
        }
        kinds = list(changes)
        for chosen in pairs_of(kinds):
            rows, own = [(1, 0, 12), (2, 1, 3), (3, 0, 20)], [3, 2, 2, 2, 0, 0, 0, 1 if "gap" in chosen else 0]
            places = {}
            for kind in chosen:
                change, place = changes[kind]
                places[kind] = len(rows) if place is None else place
                change(rows, own)
            first = min(chosen, key=kinds.index)
            self.assert_fault((first, places[first]), 8, 30, (rows, own))

    def test_against_the_words_of_the_document(self):
        told = []
        for machine, n, end, rows, own in some_sums(92, 12000):
            wanted = plain_fault(machine, n, end, rows, own)
            self.assert_fault(wanted, n, end, (rows, own), machine)
            told.append(wanted)
        self.assert_many_of_each(["own", "hand", "again", "idle", "nobody", "gap", "busy", "late"], told)

    def test_wrong_counts_and_times(self):
        for wrong in NO_HANDS:
            self.assert_raises(InvalidCount(), sum_fault, M, wrong, 8, RIGHT)
            self.assert_raises(InvalidCount(), sum_fault, M, wrong, wrong, None)
            self.assert_raises(InvalidCount(), sum_ends, M, wrong, RIGHT)
            self.assert_raises(InvalidCount(), sum_ends, M, wrong, None)
        for wrong in NO_TIMES:
            self.assert_raises(InvalidTime(), sum_fault, M, 2, wrong, RIGHT)
            self.assert_raises(InvalidTime(), sum_fault, M, 2, wrong, None)


class SumEnds(TellCase):

    def test_times_beyond_the_limit_of_times(self):
        self.assertEqual(sum_ends(M, 1, ([], [LATEST])), LATEST - 1)
        self.assertEqual(sum_ends(M, 2, ([(1, 0, LATEST)], [1, 1])), LATEST + 5)
        self.assertEqual(sum_ends(M, 2, ([(1, 0, LATEST)], [LATEST, 1])), LATEST + 5)

    def test_least_time_without_a_fault(self):
        right = 0
        for machine, n, end, rows, own in some_sums(93, 3000):
            wrong = plain_fault(machine, n, end, rows, own)
            if wrong is None or wrong[0] == "late":
                least = next(time for time in range(200) if plain_fault(machine, n, time, rows, own) is None)
                self.assertEqual(sum_ends(machine, n, (rows, own)), least)
                right += 1
        self.assertGreater(right, 300)

    def test_great_machines(self):
        machine = Machine(BILLION, BILLION, 1)
        rows = [(1, 0, 5), (2, 0, 5 + BILLION), (3, 1, 0)]
        self.assertEqual(sum_ends(machine, 3, (rows[:2], [1, 1, 1])), 5 + 4 * BILLION + 2)
        self.assertEqual(sum_fault(machine, 4, 10 ** 12, (rows, [1, 1, 1, 1])), ("busy", 1))


class MostSummed(TellCase):

    def test_example(self):
        self.assertEqual([most_summed(M, 1, time) for time in range(9)], list(range(1, 10)))
        self.assertEqual([most_summed(M, 2, time) for time in (0, 5, 6, 7, 8)], [1, 6, 7, 9, 11])
        self.assertEqual(most_summed(machine=M, time=8, n=2), 11)

    def test_against_all_sum_plans(self):
        for o, l, g, n, last in SEARCHED:
            machine = Machine(o, l, g)
            for end in range(max(0, last - 3), last + 1):
                found = [(sum(own), rows, own) for rows, own in searched_sums(machine, n, end)]
                most = max(total for total, _, _ in found)
                self.assertEqual(most_summed(machine, n, end), most, (o, l, g, n, end))
                for total, rows, own in found:
                    self.assertLessEqual(total, end + 1 + sum(start - o for _, _, start in rows))
                    self.assertIsNone(sum_fault(machine, n, end, (rows, own)))

    def test_all_hands_have_numbers_from_the_least_time_on(self):
        for o, l, g, n, last in SEARCHED:
            machine = Machine(o, l, g)
            least = least_time(slower(machine), n)
            for end in (least - 1, least):
                if end <= last:
                    full = any(all(own) for _, own in searched_sums(machine, n, end))
                    self.assertEqual(full, end == least, (o, l, g, n))

    def test_against_point_97(self):
        for machine in SMALL + GREAT:
            times = slow_times(machine)
            for n in (1, 2, 3, 7, 20, 39, 40):
                for end in (0, 1, 5, 6, 7, 8, 20, 100, machine.letter, machine.letter + machine.o + 1,
                            machine.letter + machine.o + 2, 9 * machine.letter + machine.gap, 10 ** 12):
                    wanted = end + 1 + sum(max(0, end - known - machine.o) for known in times[:n - 1])
                    self.assertEqual(most_summed(machine, n, end), wanted)

    def test_growth(self):
        for machine in SMALL:
            before = [0] * 41
            for end in range(60):
                told = [0] + [most_summed(machine, n, end) for n in range(1, 41)]
                self.assertEqual(told, sorted(told))
                for n in range(1, 41):
                    self.assertTrue(1 <= told[n] - before[n] <= n)
                before = told

    def test_wrong_arguments(self):
        for function in (most_summed, sum_plan):
            for wrong in NO_HANDS:
                self.assert_raises(InvalidCount(), function, M, wrong, 8)
                self.assert_raises(InvalidCount(), function, M, wrong, wrong)
            for wrong in NO_TIMES:
                self.assert_raises(InvalidTime(), function, M, 2, wrong)


class SumPlans(TellCase):

    def check_plan(self, machine, n, end):
        """Check that sum_plan returns a right sum plan with as many numbers as there can be."""
        thing = sum_plan(machine, n, end)
        self.assertEqual((type(thing), [type(part) for part in thing]), (tuple, [list, list]))
        rows, own = thing
        self.assertIsNone(sum_fault(machine, n, end, thing))
        self.assertEqual((len(own), sum(own)), (n, most_summed(machine, n, end)))
        self.assertLessEqual(sum_ends(machine, n, thing), end)
        for row in rows:
            self.assertEqual((type(row), [type(item) for item in row]), (tuple, [int] * 3))
        self.assertEqual({type(many) for many in own}, {int})
        return thing

    def test_small_machines(self):
        for machine in SMALL:
            for n in (1, 2, 3, 5, 9, 40):
                for end in range(0, 70, 1 if n < 6 else 7):
                    rows, own = self.check_plan(machine, n, end)
                    if n < 6:
                        self.assertIsNone(plain_fault(machine, n, end, rows, own))

    def test_great_machines(self):
        for machine in GREAT:
            for n in (1, 2, 13, 40):
                for end in (0, machine.letter, machine.letter + machine.o + 2, 20 * machine.letter, 10 ** 12 - 1,
                            10 ** 12):
                    self.check_plan(machine, n, end)

    def test_an_early_time(self):
        self.assertEqual(sum_plan(M, 3, 0), ([], [1, 0, 0]))
        self.assertEqual(sum_plan(M, 3, 4), ([], [5, 0, 0]))

    def test_told_lists_that_are_changed(self):
        rows, own = sum_plan(M, 3, 10)
        rows.clear()
        own.clear()
        self.check_plan(M, 3, 10)


class LeastTimesAndHands(TellCase):

    def test_least_sum_time_by_going_up(self):
        for machine in SMALL:
            for n in (1, 2, 3, 8, 40):
                end = 0
                for count in range(1, 130):
                    while most_summed(machine, n, end) < count:
                        end += 1
                    self.assertEqual(least_sum_time(machine, n, count), end)

    def test_least_sum_time_of_great_counts(self):
        for machine in GREAT + SMALL:
            for n in (1, 2, 17, 40):
                for count in (1, 2, 10 ** 6, BILLION, 3 * BILLION + 7, 10 ** 12 - 1, 10 ** 12):
                    end = least_sum_time(machine, n, count)
                    self.assertGreaterEqual(most_summed(machine, n, end), count)
                    if end > 0:
                        self.assertLess(most_summed(machine, n, end - 1), count)
                    more = most_summed(machine, n, end)
                    if more < 10 ** 12:
                        self.assertEqual(least_sum_time(machine, n, more), end)
                        self.assertEqual(least_sum_time(machine, n, more + 1), end + 1)
        self.assertEqual(least_sum_time(M, 1, 10 ** 12), 10 ** 12 - 1)
        self.assertEqual(least_sum_time(count=10, n=2, machine=M), 8)

    def test_least_summers(self):
        for machine in SMALL + GREAT:
            for end in (0, 1, 7, 8, 30, 100, 3 * machine.letter, 10 ** 10):
                most = [most_summed(machine, n, end) for n in range(1, 41)]
                counts = {most[at] + more for at in (0, 1, 2, 38, 39) for more in (0, 1)}
                for count in sorted(counts | {1, 2, 10, 10 ** 12}):
                    if count <= 10 ** 12:
                        wanted = next((n for n in range(1, 41) if most[n - 1] >= count), None)
                        self.assertEqual(least_summers(machine, end, count), wanted)
        self.assertEqual(least_summers(count=16, time=10, machine=M), 3)
        self.assertIsNone(least_summers(M, 0, 2))
        self.assertEqual(least_summers(M, 10 ** 12, 10 ** 12), 1)

    def test_wrong_arguments(self):
        for wrong in NO_HANDS:
            self.assert_raises(InvalidCount(), least_sum_time, M, wrong, 8)
        for wrong in NO_NUMBERS:
            self.assert_raises(InvalidCount(), least_sum_time, M, 2, wrong)
            self.assert_raises(InvalidCount(), least_summers, M, 8, wrong)
        for wrong in NO_TIMES:
            self.assert_raises(InvalidTime(), least_summers, M, wrong, 8)
            self.assert_raises(InvalidTime(), least_summers, M, wrong, wrong)


class Slower(TellCase):

    def test_numbers(self):
        for machine in SMALL:
            slow = slower(machine)
            self.assertIs(type(slow), Machine)
            letter, gap = 2 * machine.o + machine.l + 1, max(machine.g, machine.o + 1)
            self.assertEqual((slow.o, slow.l, slow.g), (0, letter, gap))
        self.assertTrue(slower(machine=Machine(3, 1, 3)) == Machine.of(8, 4))
        self.assertTrue(slower(Machine(3, 1, 4)) == Machine.of(8, 4))
        self.assertTrue(slower(Machine(3, 1, 5)) == Machine.of(8, 5))

    def test_limits(self):
        self.assertTrue(slower(Machine(0, BILLION - 1, BILLION)) == Machine.of(BILLION, BILLION))
        self.assertTrue(slower(Machine(BILLION // 2 - 1, 1, 1)) == Machine.of(BILLION, BILLION // 2))
        for machine in (Machine(0, BILLION, 1), Machine(BILLION, 0, 1), Machine(BILLION // 2, 0, 1),
                        Machine(BILLION, BILLION, BILLION)):
            self.assert_raises(InvalidMachine("letter"), slower, machine)

    def test_its_tree_is_the_one_of_the_sums(self):
        for machine in SMALL:
            slow = slower(machine)
            self.assertEqual([known_at(slow, name) for name in first_names(slow, 40)], [0] + slow_times(machine))
            for n in range(2, 41):
                # From then on the last hand is worth one number more with each unit of time.
                end = least_time(slow, n) + machine.o
                self.assertEqual(most_summed(machine, n, end), most_summed(machine, n - 1, end))
                self.assertEqual(most_summed(machine, n, end + 1), most_summed(machine, n - 1, end + 1) + 1)


class Quickness(TellCase):

    def test_many_hands_and_rows(self):
        for machine in GREAT:
            rows = [(hand, hand - 1, LATEST - hand * 10 ** 12) for hand in range(1, 40)]
            begin = time.monotonic()
            sum_fault(machine, 40, 10 ** 12, (rows, [1] * 40))
            sum_ends(machine, 40, (rows, [1] * 40))
            least_sum_time(machine, 40, 10 ** 12)
            least_summers(machine, 10 ** 12, 10 ** 12)
            self.assertLess(time.monotonic() - begin, 3)


if __name__ == "__main__":
    unittest.main()
