"""Rounds: points 62 to 64."""

import time
import unittest
from itertools import product

from tellontree.errors import InvalidCount, InvalidTime
from tellontree.letters import letters_ends, letters_fault
from tellontree.machines import Machine
from tellontree.rounds import everybody, least_period, round_plan
from tests.helper import NO_INTEGERS, TellCase

BILLION = 10 ** 9
LONGEST = 10 ** 10

# Machines whose o, l and g are small, and great ones of every kind.
SMALL = [Machine(o, l, g) for o, l, g in product((0, 1, 2, 5), (0, 1, 3, 8, 21), (1, 2, 4, 9)) if 2 * o + l > 0]
GREAT = [Machine(o, l, g) for o, l, g in product(
    (0, 1, 10 ** 8 + 7, BILLION), (0, 1, 10 ** 8 + 9, BILLION), (1, 10 ** 7, BILLION)) if 2 * o + l > 0]


def is_free(machine, n, period):
    """Tell whether no q is as point 63 says it."""
    return not any(machine.l < q * period < machine.letter for q in range(1, n - 1))


def plain_period(machine, n):
    """Return the least period by a search from the gap on."""
    period = machine.gap
    while not is_free(machine, n, period):
        period += 1
    return period


class RoundPlans(TellCase):

    def test_rows(self):
        self.assertEqual(round_plan(Machine(2, 1, 1), 3, period=2), [
            (0, 0, 1, 0), (0, 0, 2, 2), (1, 1, 2, 0), (1, 1, 0, 2), (2, 2, 0, 0), (2, 2, 1, 2)])
        self.assertEqual(round_plan(Machine(2, 1, 1), 2, period=7), [(0, 0, 1, 0), (1, 1, 0, 0)])

    def test_against_the_words_of_the_document(self):
        for n in range(2, 41):
            for period in (1, 2, 77, LONGEST):
                wanted = []
                for hand in range(n):
                    for turn in range(n - 1):
                        receiver = hand + turn + 1
                        wanted.append((hand, hand, receiver - n if receiver >= n else receiver, turn * period))
                got = round_plan(Machine(2, 1, 1), n, period=period)
                self.assertIs(type(got), list)
                self.assertEqual(got, wanted)

    def test_period_left_out(self):
        for machine in SMALL[::7] + GREAT[::7]:
            for n in (2, 3, 4, 9, 40):
                wanted = round_plan(machine, n, period=least_period(machine, n))
                self.assertEqual(round_plan(machine, n), wanted)
                self.assertEqual(round_plan(machine, n, period=None), wanted)
        self.assertEqual(round_plan(Machine(2, 1, 1), 3)[1], (0, 0, 2, 5))

    def test_wrong_periods(self):
        machine = Machine(2, 1, 1)
        self.assertEqual(round_plan(machine, 3, period=1)[1], (0, 0, 2, 1))
        self.assertEqual(round_plan(machine, 3, period=LONGEST)[1], (0, 0, 2, LONGEST))
        for period in NO_INTEGERS + [0, -1, LONGEST + 1, 10 ** 30]:
            self.assert_raises(InvalidTime(), round_plan, machine, 3, period=period)
            self.assert_raises(InvalidCount(), round_plan, machine, 41, period=period)

    def test_wrong_counts(self):
        for n in NO_INTEGERS + [None, 0, 1, -1, 41, 10 ** 30]:
            for function in (round_plan, least_period, everybody):
                self.assert_raises(InvalidCount(), function, Machine(2, 1, 1), n)
            self.assert_raises(InvalidCount(), round_plan, Machine(2, 1, 1), n, period=5)


class Periods(TellCase):

    def test_examples(self):
        machine = Machine(2, 1, 1)
        self.assertEqual(least_period(machine, 3), 5)
        self.assertEqual(least_period(machine, 2), 2)
        # With o 0 nothing lies between l and D; with a long way the gap is enough.
        self.assertEqual(least_period(Machine(0, 9, 4), 40), 4)
        self.assertEqual(least_period(Machine(1, 99, 4), 5), 4)
        self.assertEqual(least_period(Machine(1, 0, 1), 5), 2)
        # D is 10: 4 is the gap, 5 is a half of D.
        self.assertEqual(least_period(Machine(4, 2, 1), 3), 10)
        self.assertEqual(least_period(Machine(1, 8, 4), 4), 4)
        self.assertEqual(least_period(Machine(1, 8, 3), 5), 4)

    def test_against_a_plain_search(self):
        for machine in SMALL:
            for n in list(range(2, 14)) + [25, 40]:
                self.assertEqual(least_period(machine, n), plain_period(machine, n), (vars(machine), n))

    def test_against_a_plain_search_in_middle_sizes(self):
        for o, l, g in product((1, 17, 60), (0, 5, 150, 400, 1009), (1, 7, 23, 300)):
            machine = Machine(o, l, g)
            for n in (3, 4, 7, 12, 40):
                self.assertEqual(least_period(machine, n), plain_period(machine, n), (o, l, g, n))

    def test_great_machines(self):
        for machine in GREAT:
            for n in (2, 3, 4, 17, 40):
                begin = time.monotonic()
                period = least_period(machine, n)
                # It takes far less than a hundredth of a second; a busy computer gets more.
                self.assertLess(time.monotonic() - begin, 1)
                self.assertGreaterEqual(period, machine.gap)
                self.assertTrue(is_free(machine, n, period))
                if period > machine.gap:
                    self.assertFalse(is_free(machine, n, period - 1))
                    self.assertFalse(is_free(machine, n, machine.gap))

    def test_great_machines_by_hand(self):
        self.assertEqual(least_period(Machine(BILLION, BILLION, 1), 40), 3 * BILLION)
        self.assertEqual(least_period(Machine(BILLION, 0, 1), 40), 2 * BILLION)
        self.assertEqual(least_period(Machine(0, BILLION, 1), 40), 1)
        self.assertEqual(least_period(Machine(1, BILLION, 1), 40), 1)
        # Between l, 10 * 10 ** 8, and D, 12 * 10 ** 8, no multiple of the period may lie.
        self.assertEqual(least_period(Machine(10 ** 8, BILLION, 1), 40), 200000000)
        self.assertEqual(least_period(Machine(10 ** 8, BILLION, 200000001), 40), 240000000)
        self.assertEqual(least_period(Machine(10 ** 8, BILLION, 240000001), 40), 240000001)
        self.assertEqual(least_period(Machine(10 ** 8, BILLION, 250000001), 40), 300000000)

    def test_fact_right_exactly_if(self):
        for o, l, g in product((0, 1, 2, 3), (0, 1, 4, 7), (1, 2, 4)):
            if 2 * o + l == 0:
                continue
            machine = Machine(o, l, g)
            for n in (3, 4, 5, 7):
                sources = list(range(n))
                for period in range(1, machine.letter + machine.gap + 3):
                    right = letters_fault(machine, n, sources, round_plan(machine, n, period=period)) is None
                    self.assertEqual(right, period >= machine.gap and is_free(machine, n, period))

    def test_fact_two_hands(self):
        for machine in SMALL[::5]:
            self.assertEqual(least_period(machine, 2), machine.gap)
            for period in (1, 2, 3, machine.letter, LONGEST):
                self.assertIsNone(letters_fault(machine, 2, [0, 1], round_plan(machine, 2, period=period)))

    def test_forty_hands(self):
        for machine in SMALL[::9] + GREAT[::5]:
            self.assertIsNone(letters_fault(machine, 40, list(range(40)), round_plan(machine, 40)))


class Everybody(TellCase):

    def test_examples(self):
        self.assertEqual(everybody(Machine(2, 1, 1), 3), (8, 10))
        self.assertEqual(everybody(Machine(2, 1, 1), 2), (5, 5))
        self.assertEqual(everybody(Machine(0, 3, 2), 40), (79, 79))
        self.assertEqual(everybody(Machine(1, 8, 4), 4), (18, 18))

    def test_against_the_words_of_the_document(self):
        for machine in SMALL + GREAT:
            for n in (2, 3, 4, 5, 11, 40):
                low, high = everybody(machine, n)
                letter, gap = machine.letter, machine.gap
                self.assertEqual(low, max(letter + (n - 2) * gap, 2 * machine.o * (n - 1)))
                self.assertEqual(high, letter + (n - 2) * least_period(machine, n))
                self.assertLessEqual(low, high)
                if machine.o == 0 or (n - 2) * gap <= machine.l:
                    self.assertEqual(low, high)

    def test_fact_the_rounds_end_at_high(self):
        for machine in SMALL[::3] + GREAT[::3]:
            for n in (2, 3, 5, 40):
                ends = letters_ends(machine, n, list(range(n)), round_plan(machine, n))
                self.assertEqual(max(ends), everybody(machine, n)[1])
                self.assertEqual(min(ends), max(ends))

    def test_fact_no_plan_ends_before_low(self):
        for o, l, g, n in [(1, 1, 1, 2), (3, 0, 1, 2), (0, 1, 1, 3), (1, 0, 1, 3), (1, 1, 1, 3), (1, 0, 2, 3)]:
            machine = Machine(o, l, g)
            last = everybody(machine, n)[0] - 1 - machine.letter
            choices = [
                [(q, sender, hand, start) for sender in range(n) if sender != hand for start in range(last + 1)]
                for q in range(n) for hand in range(n) if hand != q]
            for rows in product(*choices):
                self.assertIsNotNone(letters_fault(machine, n, list(range(n)), list(rows)))


if __name__ == "__main__":
    unittest.main()
