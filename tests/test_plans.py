"""Plans: points 22 to 31."""

import unittest
from itertools import permutations, product

from tellontree.counts import least_time
from tellontree.errors import (
    InvalidCount, InvalidNames, InvalidPlan, InvalidTime, InvalidTurns, LimitExceeded, NothingLeft)
from tellontree.machines import Machine
from tellontree.names import first_names, known_at
from tellontree.plans import best_plan, earliest, ends, fault, latest, names_of, plan_of
from tests.helper import (
    NO_INTEGERS, NO_LISTS, TURNS, TellCase, first_found, least_index, pairs_of, some_rows, wrong_forms)

BILLION = 10 ** 9
LATEST = 10 ** 15
M = Machine.of(3, 2)

# A right plan for 4 hands on M, and the names of its hands.
PLAN = [(0, 1, 0), (0, 2, 2), (1, 3, 3)]
NAMES = [(0,), (0, 0), (0, 1), (0, 0, 0)]

# Machines, numbers of hands and ends for which all right plans can be listed.
LISTED = [
    (1, 1, 2, 4), (3, 2, 2, 9), (2, 5, 3, 11), (3, 2, 3, 11), (1, 3, 3, 9), (4, 1, 3, 11), (1, 1, 4, 6), (2, 1, 4, 7),
    (3, 2, 4, 10), (1, 3, 4, 8), (1, 2, 4, 7), (2, 2, 4, 9),
]


def known(rows, hand, letter):
    """Return the time at which a hand is known, by point 22."""
    return 0 if hand == 0 else next(start for _, receiver, start in rows if receiver == hand) + letter


def plain_fault(letter, gap, n, rows):
    """Return the fault of rows in the form of a plan, by point 23 word by word."""
    receivers = [receiver for _, receiver, _ in rows]
    hand = least_index(rows, lambda at: not (
        0 <= rows[at][0] <= n - 1 and 0 <= rows[at][1] <= n - 1 and rows[at][0] != rows[at][1] and rows[at][1] != 0))
    again = least_index(rows, lambda at: rows[at][1] in receivers[:at])
    nobody = next((h for h in range(1, n) if h not in receivers), None)
    found = first_found([("hand", hand), ("again", again), ("nobody", nobody)])
    if found is not None:
        return found
    early = least_index(rows, lambda at: rows[at][0] != 0 and rows[at][2] < known(rows, rows[at][0], letter))
    near = least_index(rows, lambda at: any(
        rows[before][0] == rows[at][0] and abs(rows[before][2] - rows[at][2]) < gap for before in range(at)))
    return first_found([("early", early), ("gap", near)])


def plain_names(n, rows):
    """Return the names of the hands, by point 25: hand by hand from the number of its row."""
    names = {0: (0,)}
    while len(names) < n:
        for sender, receiver, start in rows:
            if sender in names:
                number = sum(1 for row in rows if row[0] == sender and row[2] < start)
                names[receiver] = names[sender] + (number,)
    return [names[hand] for hand in range(n)]


def right_plans(letter, gap, n, until):
    """Return all right plans that end at until or earlier, their rows in the order of the receivers."""
    choices = [
        [(sender, hand, start) for sender in range(n) if sender != hand for start in range(until - letter + 1)]
        for hand in range(1, n)]
    return [list(rows) for rows in product(*choices) if plain_fault(letter, gap, n, rows) is None]


def by_shape(plans, n):
    """Return the plans of each shape, by the names of their hands."""
    shapes = {}
    for rows in plans:
        shapes.setdefault(tuple(plain_names(n, rows)), []).append(rows)
    return shapes


def end_of(rows, letter):
    return max([row[2] + letter for row in rows], default=0)


def starts_chosen(choose, plans):
    """Return the rows of the first plan with the start that choose takes from those of all plans."""
    return [
        (rows[0][0], rows[0][1], choose(row[2] for row in rows)) for rows in zip(*plans)]


class FaultsOfAPlan(TellCase):

    def assert_fault(self, wanted, n, thing, machine=M):
        """Check the fault, and that each function that takes a plan raises it."""
        self.assertEqual(fault(machine, n, thing), wanted)
        if wanted is not None:
            for function in (ends, names_of, earliest):
                self.assert_raises(InvalidPlan(*wanted), function, machine, n, thing)
            self.assert_raises(InvalidPlan(*wanted), latest, machine, n, thing, until=LATEST)

    def test_no_fault(self):
        self.assertIsNone(fault(M, 4, PLAN))
        self.assertIsNone(fault(M, 4, tuple(PLAN)))
        for rows in permutations(PLAN):
            self.assertIsNone(fault(M, 4, list(rows)))
        self.assertIsNone(fault(M, 2, [(0, 1, LATEST)]))
        self.assertIsNone(fault(M, 2, [(0, 1, 0)]))

    def test_one_hand(self):
        self.assertIsNone(fault(M, 1, []))
        self.assertIsNone(fault(M, 1, ()))
        self.assert_fault(("hand", 0), 1, [(0, 1, 0)])
        self.assert_fault(("hand", 0), 1, [(0, 0, 0)])

    def test_a_hundred_hands(self):
        chain = [(hand, hand + 1, 3 * hand) for hand in range(99)]
        star = [(0, hand, 2 * hand) for hand in range(1, 100)]
        for rows in (chain, star):
            self.assertIsNone(fault(M, 100, rows))
            self.assertIsNone(fault(M, 100, rows[::-1]))
            self.assert_fault(("nobody", 99), 100, rows[:-1])
        self.assert_fault(("early", 50), 100, chain[:50] + [(50, 51, 149)] + chain[51:])

    def test_wrong_forms(self):
        for wanted, thing in wrong_forms((0, 1, 5), 400):
            self.assert_fault(wanted, 3, thing)
        self.assert_fault(("form", 1), 3, [(0, 1, 0), [], [], (0, 2, 2)])

    def test_400_rows(self):
        self.assert_fault(("again", 1), 3, [(0, 1, 0)] * 400)
        rows = [(0, hand, 2 * hand) for hand in range(1, 100)]
        self.assert_fault(("again", 99), 100, rows + rows[:1] * 301)

    def test_limits_of_starts(self):
        self.assert_fault(("form", 0), 2, [(0, 1, -1)])
        self.assert_fault(("form", 0), 2, [(0, 1, LATEST + 1)])
        self.assertEqual(ends(M, 2, [(0, 1, LATEST)]), LATEST + 3)
        # A hand may be any integer as far as the form goes.
        self.assert_fault(("hand", 0), 2, [(-1, 10 ** 30, 0)])

    def test_hand(self):
        for row in [(-1, 2, 5), (3, 2, 5), (0, 3, 5), (0, -1, 5), (2, 2, 5), (0, 0, 5), (1, 0, 5), (10 ** 20, 2, 5)]:
            self.assert_fault(("hand", 1), 3, [(0, 1, 0), row])
            self.assert_fault(("hand", 0), 3, [row, (0, 1, 0), (5, 5, 5)])
        self.assertIsNone(fault(M, 3, [(0, 1, 0), (1, 2, 5)]))

    def test_again(self):
        self.assert_fault(("again", 3), 4, PLAN + [(0, 1, 50)])
        self.assert_fault(("again", 3), 4, PLAN + [(2, 1, 50), (0, 3, 60)])
        self.assert_fault(("again", 1), 4, [(0, 1, 0)] + PLAN)
        self.assert_fault(("again", 2), 3, [(0, 2, 0), (0, 1, 50), (1, 2, 60)])

    def test_nobody(self):
        self.assert_fault(("nobody", 1), 2, [])
        self.assert_fault(("nobody", 1), 100, ())
        self.assert_fault(("nobody", 2), 4, [(0, 3, 0), (0, 1, 9)])
        self.assert_fault(("nobody", 1), 4, [(0, 3, 0)])
        self.assert_fault(("nobody", 4), 5, PLAN)

    def test_early(self):
        self.assert_fault(("early", 2), 4, [(0, 1, 0), (0, 2, 2), (1, 3, 2)])
        self.assertIsNone(fault(M, 4, [(0, 1, 0), (0, 2, 2), (1, 3, 3)]))
        self.assert_fault(("early", 0), 4, [(1, 3, 0), (0, 1, 0), (0, 2, 2)])
        self.assert_fault(("early", 1), 4, [(0, 1, 4), (1, 2, 6), (1, 3, 0)])
        # Who waits for each other begins too early.
        self.assert_fault(("early", 0), 3, [(1, 2, 50), (2, 1, 50)])
        self.assert_fault(("early", 1), 3, [(1, 2, 50), (2, 1, 47)])

    def test_gap(self):
        self.assert_fault(("gap", 1), 3, [(0, 1, 0), (0, 2, 1)])
        self.assert_fault(("gap", 1), 3, [(0, 1, 1), (0, 2, 0)])
        self.assert_fault(("gap", 1), 3, [(0, 1, 7), (0, 2, 7)])
        self.assertIsNone(fault(M, 3, [(0, 1, 0), (0, 2, 2)]))
        self.assertIsNone(fault(M, 3, [(0, 1, 2), (0, 2, 0)]))
        self.assertIsNone(fault(M, 4, [(0, 1, 0), (0, 2, 2), (1, 3, 3)]))

    def test_gap_to_every_earlier_row_of_the_sender(self):
        self.assert_fault(("gap", 2), 4, [(0, 1, 0), (0, 2, 10), (0, 3, 1)])
        self.assert_fault(("gap", 3), 5, [(0, 1, 9), (0, 2, 3), (1, 4, 12), (0, 3, 8)])
        self.assert_fault(("gap", 3), 5, [(0, 1, 20), (0, 2, 3), (0, 4, 40), (0, 3, 2)])
        self.assert_fault(("gap", 2), 5, [(0, 1, 10), (0, 2, 20), (0, 3, 11), (0, 4, 21)])

    def test_gap_of_great_machines(self):
        machine = Machine.of(1, BILLION)
        for distance, wanted in [(BILLION - 1, ("gap", 1)), (BILLION, None), (1, ("gap", 1)), (0, ("gap", 1))]:
            for start in (0, 1, BILLION - 1, BILLION, LATEST - BILLION):
                rows = [(0, 1, start), (0, 2, start + distance)]
                self.assert_fault(wanted, 3, rows, machine)
                self.assert_fault(wanted, 3, rows[::-1], machine)

    def test_kinds_in_their_order(self):
        right = {"early": (2, 4, 5), "gap": (0, 5, 4)}
        wrong = {"form": (0, 1), "hand": (0, 9, 30), "again": (0, 1, 40), "early": (2, 4, 4), "gap": (0, 5, 3)}
        kinds = ["form", "hand", "again", "nobody", "early", "gap"]
        for pair in pairs_of(kinds):
            n = 7 if "nobody" in pair else 6
            rows = PLAN + [wrong[kind] for kind in pair if kind != "nobody"]
            rows += [right[kind] for kind in right if kind not in pair]
            why = min(pair, key=kinds.index)
            with self.subTest(pair):
                self.assert_fault((why, 6 if why == "nobody" else rows.index(wrong[why])), n, rows)
        rows = PLAN + [right["early"], right["gap"]]
        self.assertIsNone(fault(M, 6, rows))

    def test_against_the_words_of_the_document(self):
        found = []
        for letter, gap, n, rows in some_rows(23, 6000):
            found.append(plain_fault(letter, gap, n, rows))
            self.assertEqual(fault(Machine.of(letter, gap), n, rows), found[-1], (letter, gap, n, rows))
        self.assert_many_of_each(["hand", "again", "nobody", "early", "gap"], found)

    def test_only_letter_and_gap_count(self):
        for machine in (Machine(0, 3, 2), Machine(1, 1, 2)):
            for rows in (PLAN, [(0, 1, 0), (0, 2, 1), (1, 3, 3)], [(0, 1, 0), (0, 2, 2), (1, 3, 2)]):
                self.assertEqual(fault(machine, 4, rows), fault(M, 4, rows))

    def test_invalid_count(self):
        for n in NO_INTEGERS + [None, 0, -1, 101, 10 ** 30]:
            for thing in ([], PLAN, None):
                self.assert_raises(InvalidCount(), fault, M, n, thing)
                for function in (ends, names_of, earliest):
                    self.assert_raises(InvalidCount(), function, M, n, thing)
                self.assert_raises(InvalidCount(), latest, M, n, thing, until=-1)


class EndsAndNames(TellCase):

    def test_ends(self):
        self.assertEqual(ends(M, 1, []), 0)
        self.assertEqual(ends(M, 2, [(0, 1, 0)]), 3)
        self.assertEqual(ends(M, 2, ((0, 1, 17),)), 20)
        self.assertEqual(ends(M, 4, PLAN), 6)
        self.assertEqual(ends(M, 4, [(0, 1, 50), (0, 2, 2), (2, 3, 5)]), 53)

    def test_names_with_waits_and_starts_out_of_order(self):
        rows = [(0, 3, 40), (0, 1, 7), (1, 4, 30), (0, 2, 20), (1, 5, 12)]
        self.assertEqual(names_of(M, 6, rows), [(0,), (0, 0), (0, 1), (0, 2), (0, 0, 1), (0, 0, 0)])
        for turned in permutations(rows):
            self.assertEqual(names_of(M, 6, turned), names_of(M, 6, rows))

    def test_names_of_one_hand(self):
        self.assertEqual(names_of(M, 1, ()), [(0,)])

    def test_long_names(self):
        chain = [(hand, hand + 1, 3 * hand) for hand in range(99)]
        star = [(0, hand, 2 * hand) for hand in range(99, 0, -1)]
        self.assertEqual(names_of(M, 100, chain)[99], (0,) * 100)
        self.assertEqual(names_of(M, 100, star), [(0,)] + [(0, hand - 1) for hand in range(1, 100)])

    def test_against_all_small_plans(self):
        for letter, gap, n, until in LISTED:
            machine = Machine.of(letter, gap)
            for rows in right_plans(letter, gap, n, until):
                self.assertEqual(ends(machine, n, rows), end_of(rows, letter))
                self.assertEqual(names_of(machine, n, rows[::-1]), plain_names(n, rows))


class EarliestAndLatest(TellCase):

    def test_earliest_takes_waits_away(self):
        rows = [(0, 3, 40), (0, 1, 7), (1, 4, 30), (0, 2, 20), (1, 5, 12)]
        self.assertEqual(earliest(M, 6, rows), [(0, 3, 4), (0, 1, 0), (1, 4, 5), (0, 2, 2), (1, 5, 3)])
        self.assertEqual(earliest(M, 6, tuple(rows)), earliest(M, 6, rows))
        self.assertEqual(earliest(M, 1, ()), [])

    def test_latest_between_children_and_gaps(self):
        rows = [(0, 3, 40), (0, 1, 7), (1, 4, 30), (0, 2, 20), (1, 5, 12)]
        # Hand 1 tells 5 and then 4, which ends at until; hand 0 tells 1, 2 and 3 in this order.
        self.assertEqual(latest(M, 6, rows, until=43), [(0, 3, 40), (0, 1, 35), (1, 4, 40), (0, 2, 38), (1, 5, 38)])
        self.assertEqual(latest(M, 6, rows, until=8), [(0, 3, 5), (0, 1, 0), (1, 4, 5), (0, 2, 3), (1, 5, 3)])
        self.assert_raises(NothingLeft("time"), latest, M, 6, rows, until=7)

    def test_latest_with_a_gap_beyond_the_letter(self):
        machine = Machine.of(1, 9)
        self.assertEqual(latest(machine, 3, [(0, 1, 0), (0, 2, 9)], until=10), [(0, 1, 0), (0, 2, 9)])
        self.assertEqual(latest(machine, 3, [(0, 1, 0), (0, 2, 20)], until=12), [(0, 1, 2), (0, 2, 11)])
        self.assertEqual(latest(machine, 3, [(0, 1, 0), (1, 2, 20)], until=2), [(0, 1, 0), (1, 2, 1)])
        self.assert_raises(NothingLeft("time"), latest, machine, 3, [(0, 1, 0), (0, 2, 20)], until=9)

    def test_latest_at_its_limits(self):
        self.assertEqual(latest(M, 1, [], until=0), [])
        self.assertEqual(latest(M, 1, (), until=LATEST), [])
        self.assertEqual(latest(M, 2, [(0, 1, 5)], until=3), [(0, 1, 0)])
        self.assert_raises(NothingLeft("time"), latest, M, 2, [(0, 1, 5)], until=2)
        self.assert_raises(NothingLeft("time"), latest, M, 2, [(0, 1, 0)], until=0)
        self.assertEqual(latest(M, 2, [(0, 1, LATEST)], until=LATEST), [(0, 1, LATEST - 3)])

    def test_wrong_until(self):
        for until in NO_INTEGERS + [None, -1, LATEST + 1, 10 ** 30]:
            self.assert_raises(InvalidTime(), latest, M, 4, PLAN, until=until)
            self.assert_raises(InvalidTime(), latest, M, 1, [], until=until)
            self.assert_raises(InvalidPlan("nobody", 1), latest, M, 4, [], until=until)
            self.assert_raises(InvalidCount(), latest, M, 0, [], until=until)

    def test_order_of_errors(self):
        self.assert_raises(InvalidCount(), latest, M, 101, [(0, 1)], until=-1)
        self.assert_raises(InvalidPlan("form", 0), latest, M, 100, [(0, 1)], until=-1)
        self.assert_raises(InvalidPlan("gap", 1), latest, M, 3, [(0, 1, 0), (0, 2, 1)], until=0)
        self.assert_raises(InvalidTime(), latest, M, 2, [(0, 1, 0)], until=-1)
        self.assert_raises(NothingLeft("time"), latest, M, 2, [(0, 1, 0)], until=0)

    def test_until_at_a_hundred_hands(self):
        for letter, gap in [(1, BILLION), (BILLION, 1), (BILLION, BILLION), (7, 3)]:
            machine = Machine.of(letter, gap)
            rows = best_plan(machine, 100)
            end = ends(machine, 100, rows)
            self.assertEqual(end, least_time(machine, 100))
            self.assertEqual(earliest(machine, 100, rows), rows)
            late = latest(machine, 100, rows, until=end)
            self.assertIsNone(fault(machine, 100, late))
            self.assertEqual(ends(machine, 100, late), end)
            self.assertEqual(names_of(machine, 100, late), names_of(machine, 100, rows))
            self.assertEqual(late[0][2], rows[0][2])
            much = latest(machine, 100, rows, until=LATEST)
            self.assertEqual(much, [(a, b, start + LATEST - end) for a, b, start in late])
            self.assert_raises(NothingLeft("time"), latest, machine, 100, rows, until=end - 1)

    def test_against_all_small_plans(self):
        for letter, gap, n, until in LISTED:
            machine = Machine.of(letter, gap)
            for plans in by_shape(right_plans(letter, gap, n, until), n).values():
                self.check_shape(machine, n, plans, until)

    def check_shape(self, machine, n, plans, until):
        """Check earliest and latest for the plans of one shape, which are all that end by until."""
        letter = machine.letter
        soonest = starts_chosen(min, plans)
        self.assertIn(soonest, plans)
        for rows in plans:
            self.assertEqual(earliest(machine, n, rows), soonest)
        end = end_of(soonest, letter)
        for time in range(end, until + 1):
            wanted = starts_chosen(max, [rows for rows in plans if end_of(rows, letter) <= time])
            self.assertIn(wanted, plans)
            self.assertEqual(latest(machine, n, plans[-1], until=time), wanted)
            self.assertEqual(latest(machine, n, tuple(plans[0][::-1]), until=time), wanted[::-1])
        if end > 0:
            self.assert_raises(NothingLeft("time"), latest, machine, n, plans[-1], until=end - 1)
        self.assertEqual(
            latest(machine, n, plans[0], until=until + 1000),
            [(a, b, start + 1000) for a, b, start in latest(machine, n, plans[0], until=until)])


class PlansOfNames(TellCase):

    def assert_wrong(self, at, names):
        self.assert_raises(InvalidNames(at), plan_of, M, names)

    def test_plan_of(self):
        self.assertEqual(plan_of(M, NAMES), PLAN)
        self.assertEqual(plan_of(M, tuple(NAMES)), PLAN)
        self.assertEqual(plan_of(M, [(0,)]), [])
        self.assertEqual(plan_of(M, ((0,), (0, 0))), [(0, 1, 0)])

    def test_names_in_any_order_behind_the_root(self):
        for turned in permutations([(0, 0), (0, 1), (0, 0, 0), (0, 0, 1)]):
            names = [(0,)] + list(turned)
            rows = plan_of(M, names)
            self.assertEqual([row[1] for row in rows], [1, 2, 3, 4])
            for sender, receiver, start in rows:
                self.assertEqual(names[sender], names[receiver][:-1])
                self.assertEqual(start, known_at(M, names[receiver]) - 3)
            self.assertIsNone(fault(M, 5, rows))
            self.assertEqual(names_of(M, 5, rows), names)

    def test_no_list_of_names(self):
        for thing in NO_LISTS:
            self.assert_wrong(-1, thing)
        self.assert_wrong(-1, [])
        self.assert_wrong(-1, ())
        star = [(0,)] + [(0, number) for number in range(100)]
        self.assertEqual(len(plan_of(M, star[:100])), 99)
        self.assert_wrong(-1, star)
        self.assert_wrong(-1, [None] * 101)
        self.assert_wrong(0, [None] * 100)

    def test_no_names(self):
        for thing in NO_INTEGERS + [None, 0, [0, 0], (), (0, -1), (0, True), (1,), (1, 0), (0, 10 ** 15 + 1),
                                    (0,) * 201, ((0,),), (0, (0,)), (0, None), "(0, 0)"]:
            self.assert_wrong(1, [(0,), thing])
            self.assert_wrong(2, [(0,), (0, 5), thing])
            self.assert_wrong(0, [thing, (0,)])

    def test_equal_items(self):
        self.assert_wrong(1, [(0,), (0,)])
        self.assert_wrong(3, [(0,), (0, 0), (0, 1), (0, 0), (0, 1)])
        self.assert_wrong(2, [(0,), (0, 5), (0, 5)])

    def test_root_stands_first(self):
        self.assert_wrong(0, [(0, 0)])
        self.assert_wrong(0, [(0, 0), (0,)])
        self.assert_wrong(0, [(0, 0), (0, 0)])

    def test_sender_is_missing(self):
        self.assert_wrong(1, [(0,), (0, 0, 0)])
        self.assert_wrong(2, [(0,), (0, 0), (0, 1, 0), (0, 2, 0)])
        self.assert_wrong(1, [(0,), (0, 1, 0), (0, 0)])
        self.assert_wrong(1, [(0,)] + [(0,) * 200])

    def test_a_lesser_last_item_is_missing(self):
        self.assert_wrong(1, [(0,), (0, 1)])
        self.assert_wrong(2, [(0,), (0, 0), (0, 2)])
        self.assert_wrong(1, [(0,), (0, 10 ** 15)])
        self.assert_wrong(3, [(0,), (0, 1), (0, 0), (0, 0, 1)])
        # A lesser item counts also if it stands behind.
        self.assertEqual(plan_of(M, [(0,), (0, 1), (0, 0)]), [(0, 1, 2), (0, 2, 0)])

    def test_kinds_in_their_order(self):
        # No name, an equal one and a wrong root are looked for in all items before senders are.
        self.assert_wrong(3, [(0,), (0, 5), (0, 0, 0), None])
        self.assert_wrong(3, [(0,), (0, 5), (0, 0), (0, 5)])
        self.assert_wrong(0, [(0, 5), (0, 5), None])
        self.assert_wrong(2, [(0,), (0, 5), (0, 5), None])
        self.assert_wrong(2, [(0,), (0, 5), None, (0, 5)])
        self.assert_wrong(1, [(0,), (0, 5), (0, 1, 0)])
        self.assert_wrong(1, [(0,), (0, 1, 0), (0, 5)])

    def test_fact_names_of_right_plans(self):
        for letter, gap, n, until in LISTED:
            machine = Machine.of(letter, gap)
            for names, plans in by_shape(right_plans(letter, gap, n, until), n).items():
                rows = plan_of(machine, list(names))
                self.assertEqual(rows, sorted(earliest(machine, n, plans[-1][::-1]), key=lambda row: row[1]))
                self.assertEqual(tuple(names_of(machine, n, rows)), names)


class BestPlans(TellCase):

    def test_best_plan_is_that_of_the_first_names(self):
        for machine in (M, Machine(1, 2, 3), Machine.of(1, 7), Machine.of(9, 1)):
            for n in (1, 2, 3, 10, 40, 100):
                for turns in TURNS:
                    if turns == 1 and n > 40:
                        continue
                    rows = best_plan(machine, n, turns=turns)
                    self.assertEqual(rows, plan_of(machine, first_names(machine, n, turns=turns)))
                    self.assertIsNone(fault(machine, n, rows))
                    self.assertEqual(ends(machine, n, rows), least_time(machine, n, turns=turns))
                    senders = [row[0] for row in rows]
                    self.assertLessEqual(max([senders.count(h) for h in senders], default=0), turns or 100)

    def test_examples(self):
        self.assertEqual(best_plan(M, 1), [])
        self.assertEqual(best_plan(M, 4), PLAN)
        self.assertEqual(best_plan(M, 4, turns=1), [(0, 1, 0), (1, 2, 3), (2, 3, 6)])
        self.assertEqual(best_plan(M, 3, turns=2), [(0, 1, 0), (0, 2, 2)])

    def test_errors(self):
        for turns in NO_INTEGERS + [0, -1, 10 ** 12 + 1]:
            self.assert_raises(InvalidTurns(), best_plan, M, 0, turns=turns)
            self.assert_raises(InvalidTurns(), best_plan, M, 4, turns=turns)
        for n in NO_INTEGERS + [None, 0, -1, 101]:
            self.assert_raises(InvalidCount(), best_plan, M, n)
            self.assert_raises(InvalidCount(), best_plan, M, n, turns=1)
        # With one turn the hand h is known at h * D, and the horizon is 40 * D.
        self.assertEqual(len(best_plan(M, 41, turns=1)), 40)
        self.assert_raises(LimitExceeded("time"), best_plan, M, 42, turns=1)
        self.assert_raises(LimitExceeded("time"), best_plan, M, 100, turns=1)

    def test_fact_no_plan_ends_earlier(self):
        for letter, gap, n, until in LISTED:
            machine = Machine.of(letter, gap)
            plans = right_plans(letter, gap, n, until)
            self.assertEqual(min(end_of(rows, letter) for rows in plans), least_time(machine, n))
            for turns in range(1, n):
                limited = [rows for rows in plans if max(
                    [row[0] for row in rows].count(h) for h in range(n)) <= turns]
                least = least_time(machine, n, turns=turns)
                if least <= until:
                    self.assertEqual(min(end_of(rows, letter) for rows in limited), least)
                else:
                    self.assertEqual(limited, [])


class FactsOfShapes(TellCase):

    def test_lesser_and_greater_starts(self):
        for letter, gap, n, until in LISTED:
            machine = Machine.of(letter, gap)
            for names, plans in by_shape(right_plans(letter, gap, n, until), n).items():
                some = plans[::max(1, len(plans) // 8)]
                for one, other in product(some, some):
                    for choose in (min, max):
                        rows = starts_chosen(choose, [one, other])
                        self.assertIsNone(fault(machine, n, rows))
                        self.assertEqual(tuple(names_of(machine, n, rows)), names)

    def test_no_hand_is_known_before_its_name(self):
        for letter, gap, n, until in LISTED:
            machine = Machine.of(letter, gap)
            for rows in right_plans(letter, gap, n, until):
                names = names_of(machine, n, rows)
                self.assertEqual(len(set(names)), n)
                for hand in range(n):
                    self.assertGreaterEqual(known(rows, hand, letter), known_at(machine, names[hand]))


if __name__ == "__main__":
    unittest.main()
