"""Gathers: points 50 to 55."""

import unittest
from itertools import permutations, product

from tellontree.counts import least_time
from tellontree.errors import InvalidCount, InvalidPlan
from tellontree.gathers import best_gather, gather_ends, gather_fault, heard, turned_gather, turned_plan
from tellontree.machines import Machine
from tellontree.plans import best_plan, ends, fault
from tests.helper import NO_INTEGERS, NO_LISTS, TellCase, first_found, least_index, pairs_of, some_rows, wrong_forms

BILLION = 10 ** 9
LATEST = 10 ** 15
M = Machine(1, 2, 2)

# A right gather of 4 hands on M, where D is 4 and G is 2.
GATHER = [(1, 2, 0), (2, 0, 4), (3, 0, 1)]

# Machines as (letter, gap), numbers of hands and ends for which all right gathers can be listed.
LISTED = [(1, 1, 2, 4), (4, 2, 2, 9), (2, 5, 3, 9), (3, 2, 3, 10), (1, 3, 3, 8), (1, 1, 4, 4), (2, 1, 4, 6), (1, 2, 4, 5)]


def plain_fault(letter, gap, n, rows):
    """Return the fault of rows in the form of a gather, by point 51 word by word."""
    senders = [sender for sender, _, _ in rows]
    hand = least_index(rows, lambda at: not (
        0 <= rows[at][0] <= n - 1 and 0 <= rows[at][1] <= n - 1) or rows[at][0] == rows[at][1] or rows[at][0] == 0)
    again = least_index(rows, lambda at: senders[at] in senders[:at])
    nobody = next((h for h in range(1, n) if h not in senders), None)
    early = least_index(rows, lambda at: any(
        receiver == rows[at][0] and rows[at][2] < start + letter for _, receiver, start in rows))
    near = least_index(rows, lambda at: any(
        rows[before][1] == rows[at][1] and abs(rows[before][2] - rows[at][2]) < gap for before in range(at)))
    return first_found([("hand", hand), ("again", again), ("nobody", nobody), ("early", early), ("gap", near)])


def is_right(letter, gap, n, rows):
    """Tell whether the rows are a right gather, by point 50."""
    each = all(sum(1 for row in rows if row[0] == hand) == (hand > 0) for hand in range(n))
    waits = all(a[2] >= b[2] + letter for a in rows for b in rows if b[1] == a[0])
    apart = all(abs(a[2] - b[2]) >= gap for a in rows for b in rows if a != b and a[1] == b[1])
    return each and waits and apart


def right_gathers(letter, gap, n, until):
    """Return all right gathers that end at until or earlier, their rows in the order of the senders."""
    choices = [
        [(hand, receiver, start) for receiver in range(n) if receiver != hand for start in range(until - letter + 1)]
        for hand in range(1, n)]
    return [list(rows) for rows in product(*choices) if is_right(letter, gap, n, rows)]


def plain_heard(letter, n, rows, hand, time):
    """Return what a hand knows at a time, by point 53: letter by letter as time goes on."""
    words = {h: {h} for h in range(n)}
    under_way = []
    for now in range(time + 1):
        for arrives, receiver, carried in under_way:
            if arrives == now:
                words[receiver] |= carried
        under_way += [(now + letter, b, set(words[a])) for a, b, start in rows if start == now]
    return sorted(words[hand])


class FaultsOfAGather(TellCase):

    def assert_fault(self, wanted, n, thing, machine=M):
        """Check the fault, and that each function that takes a gather raises it."""
        self.assertEqual(gather_fault(machine, n, thing), wanted)
        if wanted is not None:
            self.assert_raises(InvalidPlan(*wanted), gather_ends, machine, n, thing)
            self.assert_raises(InvalidPlan(*wanted), heard, machine, n, thing, 0, 0)
            self.assert_raises(InvalidPlan(*wanted), turned_gather, machine, n, thing)

    def test_no_fault(self):
        for rows in permutations(GATHER):
            self.assertIsNone(gather_fault(M, 4, rows))
            self.assertIsNone(gather_fault(M, 4, list(rows)))
        self.assertIsNone(gather_fault(M, 2, [(1, 0, LATEST)]))
        self.assertIsNone(gather_fault(M, 2, ((1, 0, 0),)))

    def test_example(self):
        self.assert_fault(("gap", 1), 3, [(1, 0, 0), (2, 0, 1)])
        self.assert_fault(("early", 1), 3, [(1, 2, 0), (2, 0, 3)])

    def test_one_hand(self):
        self.assertIsNone(gather_fault(M, 1, []))
        self.assertIsNone(gather_fault(M, 1, ()))
        self.assert_fault(("hand", 0), 1, [(1, 0, 0)])
        self.assert_fault(("hand", 0), 1, [(0, 0, 0)])

    def test_a_hundred_hands(self):
        chain = [(hand, hand - 1, 4 * (99 - hand)) for hand in range(1, 100)]
        star = [(hand, 0, 2 * hand) for hand in range(1, 100)]
        for rows in (chain, star):
            self.assertIsNone(gather_fault(M, 100, rows))
            self.assertIsNone(gather_fault(M, 100, rows[::-1]))
            self.assert_fault(("nobody", 99), 100, rows[:-1])
        self.assert_fault(("early", 49), 100, chain[:49] + [(50, 49, 4 * 49 - 1)] + chain[50:])

    def test_wrong_forms(self):
        for wanted, thing in wrong_forms((2, 0, 5), 400):
            self.assert_fault(wanted, 3, thing)
        self.assert_fault(("again", 1), 3, [(1, 0, 0)] * 400)

    def test_hand(self):
        for row in [(-1, 0, 5), (3, 0, 5), (2, 3, 5), (2, -1, 5), (2, 2, 5), (0, 2, 5), (0, 0, 5), (2, 10 ** 20, 5)]:
            self.assert_fault(("hand", 1), 3, [(1, 0, 0), row])
            self.assert_fault(("hand", 0), 3, [row, (1, 0, 0), (5, 5, 5)])

    def test_again(self):
        self.assert_fault(("again", 3), 4, GATHER + [(1, 0, 50)])
        self.assert_fault(("again", 1), 4, [(3, 0, 50), (3, 0, 50)])
        self.assert_fault(("again", 2), 4, [(3, 0, 50), (2, 0, 60), (2, 3, 0), (3, 0, 1)])

    def test_nobody(self):
        self.assert_fault(("nobody", 1), 2, [])
        self.assert_fault(("nobody", 1), 3, [(2, 0, 0)])
        self.assert_fault(("nobody", 2), 4, [(3, 0, 0), (1, 0, 50)])
        self.assert_fault(("nobody", 4), 5, GATHER)

    def test_early(self):
        self.assert_fault(("early", 1), 4, [(1, 2, 0), (2, 0, 3), (3, 0, 1)])
        self.assert_fault(("early", 0), 4, [(2, 0, 3), (1, 2, 0), (3, 0, 1)])
        self.assertIsNone(gather_fault(M, 4, [(2, 0, 4), (1, 2, 0), (3, 0, 1)]))
        # The last letter that the sender receives counts, wherever it stands.
        self.assert_fault(("early", 2), 4, [(1, 3, 0), (2, 3, 6), (3, 0, 9)])
        self.assert_fault(("early", 2), 4, [(2, 3, 6), (1, 3, 0), (3, 0, 9)])
        self.assertIsNone(gather_fault(M, 4, [(2, 3, 6), (1, 3, 0), (3, 0, 10)]))
        self.assert_fault(("early", 0), 3, [(1, 2, 50), (2, 1, 50)])
        self.assert_fault(("early", 1), 3, [(1, 2, 54), (2, 1, 50)])

    def test_gap(self):
        self.assert_fault(("gap", 1), 3, [(1, 0, 1), (2, 0, 0)])
        self.assert_fault(("gap", 1), 3, [(1, 0, 5), (2, 0, 5)])
        self.assertIsNone(gather_fault(M, 3, [(1, 0, 2), (2, 0, 0)]))
        self.assert_fault(("gap", 2), 4, [(1, 0, 0), (2, 0, 10), (3, 0, 1)])
        self.assert_fault(("gap", 2), 4, [(1, 0, 0), (2, 0, 10), (3, 0, 11)])
        self.assert_fault(("gap", 3), 5, [(1, 2, 3), (2, 0, 9), (3, 2, 5), (4, 0, 8)])
        self.assertIsNone(gather_fault(M, 5, [(1, 2, 3), (2, 0, 9), (3, 2, 5), (4, 0, 11)]))

    def test_kinds_in_their_order(self):
        right = {"early": (4, 1, 0), "gap": (5, 0, 10)}
        wrong = {"form": (1, 0), "hand": (9, 0, 30), "again": (1, 0, 40), "early": (4, 1, 1), "gap": (5, 0, 9)}
        base = [(1, 2, 4), (2, 0, 8), (3, 0, 1)]
        kinds = ["form", "hand", "again", "nobody", "early", "gap"]
        for pair in pairs_of(kinds):
            n = 7 if "nobody" in pair else 6
            rows = base + [wrong[kind] for kind in pair if kind != "nobody"]
            rows += [right[kind] for kind in right if kind not in pair]
            why = min(pair, key=kinds.index)
            # Too early is the row of hand 1, which hand 4 tells too late.
            places = {"nobody": 6, "early": 0}
            with self.subTest(pair):
                self.assert_fault((why, places[why] if why in places else rows.index(wrong[why])), n, rows)
        self.assertIsNone(gather_fault(M, 6, base + [right["early"], right["gap"]]))

    def test_against_the_words_of_the_document(self):
        found = []
        for letter, gap, n, plan in some_rows(51, 6000):
            last = max([row[2] for row in plan], default=0)
            rows = [(b, a, last - start) for a, b, start in plan]
            wanted = plain_fault(letter, gap, n, rows)
            self.assertEqual(gather_fault(Machine.of(letter, gap), n, rows), wanted, (letter, gap, n, rows))
            if wanted is None or wanted[0] != "hand":
                self.assertEqual(wanted is None, is_right(letter, gap, n, rows))
            found.append(wanted)
        self.assert_many_of_each(["hand", "again", "nobody", "early", "gap"], found)

    def test_invalid_count(self):
        for n in NO_INTEGERS + [None, 0, -1, 101, 10 ** 30]:
            for thing in ([], GATHER, None):
                self.assert_raises(InvalidCount(), gather_fault, M, n, thing)
                self.assert_raises(InvalidCount(), gather_ends, M, n, thing)
                self.assert_raises(InvalidCount(), heard, M, n, thing, 0, 0)
                self.assert_raises(InvalidCount(), turned_plan, M, n, thing)
                self.assert_raises(InvalidCount(), turned_gather, M, n, thing)
            self.assert_raises(InvalidCount(), best_gather, M, n)


class EndsAndHeard(TellCase):

    def test_ends(self):
        self.assertEqual(gather_ends(M, 1, []), 0)
        self.assertEqual(gather_ends(M, 2, [(1, 0, 0)]), 4)
        self.assertEqual(gather_ends(M, 4, tuple(GATHER)), 8)
        self.assertEqual(gather_ends(M, 4, [(3, 0, 90), (1, 2, 0), (2, 0, 4)]), 94)
        self.assertEqual(gather_ends(M, 2, [(1, 0, LATEST)]), LATEST + 4)

    def test_heard_around_arrivals(self):
        for time, wanted in [(0, [0]), (4, [0]), (5, [0, 3]), (6, [0, 3]), (7, [0, 3]), (8, [0, 1, 2, 3]),
                             (9, [0, 1, 2, 3]), (10 ** 16, [0, 1, 2, 3])]:
            self.assertEqual(heard(M, 4, GATHER, 0, time), wanted)
            self.assertEqual(heard(M, 4, tuple(GATHER[::-1]), 0, time), wanted)
        for time, wanted in [(0, [2]), (3, [2]), (4, [1, 2]), (5, [1, 2]), (10 ** 16, [1, 2])]:
            self.assertEqual(heard(M, 4, GATHER, 2, time), wanted)
        for time in (0, 3, 4, 8, 10 ** 16):
            self.assertEqual(heard(M, 4, GATHER, 1, time), [1])
            self.assertEqual(heard(M, 4, GATHER, 3, time), [3])
        self.assertEqual(heard(M, 1, [], 0, 0), [0])
        self.assertEqual(heard(M, 1, [], 0, 10 ** 16), [0])

    def test_heard_late(self):
        rows = [(1, 0, LATEST)]
        self.assertEqual(heard(M, 2, rows, 0, LATEST + 3), [0])
        self.assertEqual(heard(M, 2, rows, 0, LATEST + 4), [0, 1])

    def test_against_all_small_gathers(self):
        for letter, gap, n, until in LISTED:
            machine = Machine.of(letter, gap)
            gathers = right_gathers(letter, gap, n, until)
            for rows in gathers[::max(1, len(gathers) // 40)]:
                self.assertEqual(gather_ends(machine, n, rows), max(row[2] for row in rows) + letter)
                for hand, time in product(range(n), range(until + 2)):
                    wanted = plain_heard(letter, n, rows, hand, time)
                    self.assertEqual(heard(machine, n, rows[::-1], hand, time), wanted, (rows, hand, time))
                self.assertEqual(heard(machine, n, rows, 0, gather_ends(machine, n, rows)), list(range(n)))


class Turned(TellCase):

    def test_turned_plan(self):
        self.assertEqual(turned_plan(M, 3, [(0, 1, 0), (0, 2, 2)]), [(1, 0, 2), (2, 0, 0)])
        self.assertEqual(turned_plan(M, 3, ((0, 1, 7), (1, 2, 20))), [(1, 0, 13), (2, 1, 0)])
        self.assertEqual(turned_plan(M, 1, ()), [])
        self.assertEqual(turned_plan(M, 2, [(0, 1, LATEST)]), [(1, 0, 0)])

    def test_turned_gather(self):
        self.assertEqual(turned_gather(M, 4, GATHER), [(2, 1, 4), (0, 2, 0), (0, 3, 3)])
        self.assertEqual(turned_gather(M, 4, tuple(GATHER)), [(2, 1, 4), (0, 2, 0), (0, 3, 3)])
        self.assertEqual(turned_gather(M, 1, []), [])
        self.assertEqual(turned_gather(M, 2, [(1, 0, 99)]), [(0, 1, 0)])

    def test_faults_of_plans_and_of_gathers(self):
        rows = [(0, 1, 0), (0, 2, 1)]
        self.assert_raises(InvalidPlan("gap", 1), turned_plan, M, 3, rows)
        self.assert_raises(InvalidPlan("hand", 0), turned_gather, M, 3, rows)
        self.assert_raises(InvalidPlan("hand", 0), turned_plan, M, 3, [(1, 0, 0), (2, 0, 1)])
        self.assert_raises(InvalidPlan("gap", 1), turned_gather, M, 3, [(1, 0, 0), (2, 0, 1)])
        self.assert_raises(InvalidPlan("early", 1), turned_plan, M, 3, [(0, 1, 0), (1, 2, 3)])
        self.assert_raises(InvalidPlan("again", 1), turned_plan, M, 3, [(0, 1, 0), (2, 1, 9)])
        self.assert_raises(InvalidPlan("nobody", 2), turned_plan, M, 3, [(0, 1, 0)])
        for thing in NO_LISTS:
            self.assert_raises(InvalidPlan("form", -1), turned_plan, M, 3, thing)
            self.assert_raises(InvalidPlan("form", -1), turned_gather, M, 3, thing)
            self.assert_raises(InvalidCount(), turned_plan, M, 0, thing)

    def check_turning(self, there, back, end, machine, n, rows):
        """Check the facts of point 54 for rows that are right."""
        letter = machine.letter
        turned = there(machine, n, rows)
        last = max(row[2] for row in rows)
        self.assertEqual(turned, [(b, a, last - start) for a, b, start in rows])
        self.assertEqual(min(row[2] for row in turned), 0)
        least = min(row[2] for row in rows)
        self.assertEqual(end(machine, n, turned), last + letter - least)
        self.assertEqual(back(machine, n, turned), [(a, b, start - least) for a, b, start in rows])

    def test_forth_and_back(self):
        for letter, gap, n, until in LISTED:
            machine = Machine.of(letter, gap)
            gathers = right_gathers(letter, gap, n, until)
            plans = []
            for rows in gathers:
                self.check_turning(turned_gather, turned_plan, ends, machine, n, rows)
                plan = turned_gather(machine, n, rows)
                self.assertIsNone(fault(machine, n, plan))
                plans.append([(a, b, start + until % 3) for a, b, start in plan])
            for rows in plans[::3]:
                self.check_turning(turned_plan, turned_gather, gather_ends, machine, n, rows)
                self.assertIsNone(gather_fault(machine, n, turned_plan(machine, n, rows)))

    def test_great_machines(self):
        for machine in (Machine(BILLION, BILLION, 1), Machine(0, 1, BILLION), Machine(BILLION, BILLION, BILLION)):
            rows = best_plan(machine, 100)
            turned = turned_plan(machine, 100, rows)
            self.assertIsNone(gather_fault(machine, 100, turned))
            self.assertEqual(turned_gather(machine, 100, turned), rows)
            self.assertEqual(heard(machine, 100, turned, 0, gather_ends(machine, 100, turned)), list(range(100)))


class BestGathers(TellCase):

    def test_as_early_as_the_least_time(self):
        for machine in (M, Machine(0, 1, 1), Machine(0, 1, 5), Machine(2, 3, 1), Machine(BILLION, BILLION, 1)):
            for n in range(1, 101):
                rows = best_gather(machine, n)
                self.assertIs(type(rows), list)
                self.assertIsNone(gather_fault(machine, n, rows))
                self.assertEqual(gather_ends(machine, n, rows), least_time(machine, n))

    def test_fact_no_gather_ends_earlier(self):
        for letter, gap, n, until in LISTED:
            machine = Machine.of(letter, gap)
            least = min(max(row[2] for row in rows) + letter for rows in right_gathers(letter, gap, n, until))
            self.assertEqual(least, least_time(machine, n))


if __name__ == "__main__":
    unittest.main()
