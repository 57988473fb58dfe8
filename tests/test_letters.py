"""Several letters: points 56 to 61."""

import random
import unittest
from itertools import product

from tellontree.counts import least_time
from tellontree.errors import InvalidCount, InvalidPlan, InvalidRows
from tellontree.letters import bounds, doing, known_letters, letters_ends, letters_fault, letters_plan
from tellontree.machines import Machine
from tests.helper import NO_INTEGERS, NO_LISTS, TellCase, first_found, least_index, pairs_of, wrong_forms

BILLION = 10 ** 9
LATEST = 10 ** 15
M = Machine(1, 2, 2)

# A right letters plan for 3 hands and the sources [0, 0] on M, where D is 4 and G is 2.
ROWS = [(0, 0, 1, 0), (0, 1, 2, 4), (1, 0, 1, 2), (1, 1, 2, 6)]

# Machines of many kinds: free, never busy, long busy, with a long way, with a long gap.
MACHINES = [(1, 2, 2), (0, 1, 1), (0, 3, 2), (2, 0, 1), (1, 0, 1), (1, 0, 5), (3, 1, 2), (5, 7, 1), (2, 20, 3), (1, 1, 9)]


def busy_times(machine, row):
    """Return the hands that are busy with a row, with their times, by point 57."""
    _, sender, receiver, start = row
    sends = {(sender, t) for t in range(start, start + machine.o)}
    return sends | {(receiver, t) for t in range(start + machine.o + machine.l, start + machine.letter)}


def plain_fault(machine, n, sources, rows):
    """Return the fault of rows in the form of a letters plan, by point 58 word by word."""
    k = len(sources)
    letter = least_index(rows, lambda at: not 0 <= rows[at][0] <= k - 1)
    hand = least_index(rows, lambda at: not all(
        0 <= h <= n - 1 for h in rows[at][1:3]) or rows[at][1] == rows[at][2])
    found = first_found([("letter", letter), ("hand", hand)])
    if found is not None:
        return found
    got = [(q, receiver) for q, _, receiver, _ in rows]
    again = least_index(rows, lambda at: sources[got[at][0]] == got[at][1] or got[at] in got[:at])
    nobody = next((
        (q, h) for q in range(k) for h in range(n) if h != sources[q] and (q, h) not in got), None)
    found = first_found([("again", again), ("nobody", nobody)])
    if found is not None:
        return found
    start_of = {(q, receiver): start for q, _, receiver, start in rows}
    early = least_index(rows, lambda at: rows[at][1] != sources[rows[at][0]] and (
        rows[at][3] < start_of[rows[at][0], rows[at][1]] + machine.letter))

    def near(place):
        return least_index(rows, lambda at: any(
            rows[before][place] == rows[at][place] and abs(rows[before][3] - rows[at][3]) < machine.gap
            for before in range(at)))

    times = [busy_times(machine, row) for row in rows]
    busy = least_index(rows, lambda at: any(times[before] & times[at] for before in range(at)))
    return first_found([("early", early), ("gap", near(1)), ("close", near(2)), ("busy", busy)])


def all_letters_plans(n, sources, last):
    """Yield the rows of all senders and starts until last, letter by letter and receiver by receiver."""
    choices = [
        [(q, sender, hand, start) for sender in range(n) if sender != hand for start in range(last + 1)]
        for q, source in enumerate(sources) for hand in range(n) if hand != source]
    for rows in product(*choices):
        yield list(rows)


def some_right_plans():
    """Yield machines with right letters plans: numbers of hands, sources and rows."""
    source = random.Random(59)
    for o, l, g in MACHINES:
        machine = Machine(o, l, g)
        step = 2 * machine.letter + machine.gap
        for _ in range(6):
            n = source.randint(2, 5)
            sources = [source.randrange(n) for _ in range(source.randint(1, 4))]
            rows = []
            for q, first in enumerate(sources):
                knowing = [first]
                for hand in source.sample([h for h in range(n) if h != first], n - 1):
                    rows.append((q, source.choice(knowing), hand, step * len(rows) + source.randint(0, 2)))
                    knowing.append(hand)
            source.shuffle(rows)
            yield machine, n, sources, rows


class FaultsOfLetters(TellCase):

    def assert_fault(self, wanted, n, sources, thing, machine=M):
        """Check the fault, and that each function that takes a letters plan raises it."""
        self.assertEqual(letters_fault(machine, n, sources, thing), wanted)
        if wanted is not None:
            self.assert_raises(InvalidPlan(*wanted), letters_ends, machine, n, sources, thing)
            self.assert_raises(InvalidPlan(*wanted), known_letters, machine, n, sources, thing, 0, 0)
            self.assert_raises(InvalidPlan(*wanted), doing, machine, n, sources, thing, 0, 0)

    def test_no_fault(self):
        self.assertIsNone(letters_fault(M, 3, [0, 0], ROWS))
        self.assertIsNone(letters_fault(M, 3, (0, 0), tuple(ROWS[::-1])))
        self.assertIsNone(letters_fault(M, 2, [1], [(0, 1, 0, LATEST)]))
        self.assertIsNone(letters_fault(M, 2, [0, 1], [(0, 0, 1, 0), (1, 1, 0, 0)]))

    def test_wrong_forms(self):
        for wanted, thing in wrong_forms((1, 0, 2, 5), 2000):
            self.assert_fault(wanted, 3, [0, 0], thing)
        self.assert_fault(("again", 1), 3, [0, 0], [(0, 0, 1, 0)] * 2000)
        self.assert_fault(("form", 0), 2, [0], [(0, 0, 1, LATEST + 1)])
        self.assert_fault(("form", 0), 2, [0], [(0, 0, 1, -1)])

    def test_letter(self):
        for q in (-1, 2, 3, 10 ** 20):
            self.assert_fault(("letter", 2), 3, [0, 0], ROWS[:2] + [(q, 0, 1, 50)] + ROWS[2:])
            self.assert_fault(("letter", 0), 3, [0, 0], [(q, 9, 9, 50), (7, 0, 1, 0)])

    def test_hand(self):
        for pair in [(-1, 1), (3, 1), (0, 3), (0, -1), (1, 1), (0, 0), (2, 10 ** 20)]:
            self.assert_fault(("hand", 1), 3, [0, 0], [ROWS[0], (1,) + pair + (50,)])
            self.assert_fault(("hand", 0), 3, [0, 0], [(0,) + pair + (50,), (1, 5, 5, 0)])

    def test_again(self):
        self.assert_fault(("again", 4), 3, [0, 0], ROWS + [(0, 1, 2, 50)])
        self.assert_fault(("again", 4), 3, [0, 0], ROWS + [(1, 0, 2, 50)])
        self.assert_fault(("again", 4), 3, [0, 0], ROWS + [(1, 2, 0, 50)])
        self.assert_fault(("again", 0), 3, [0, 0], [(1, 2, 0, 50)] + ROWS)
        self.assert_fault(("again", 1), 2, [0, 1], [(0, 0, 1, 0), (1, 0, 1, 90)])
        self.assertIsNone(letters_fault(M, 2, [0, 0], [(0, 0, 1, 0), (1, 0, 1, 90)]))

    def test_nobody(self):
        self.assert_fault(("nobody", (0, 1)), 2, [0], [])
        self.assert_fault(("nobody", (0, 0)), 2, [1, 0], ())
        self.assert_fault(("nobody", (0, 2)), 3, [0, 0], [ROWS[0]] + ROWS[2:3])
        self.assert_fault(("nobody", (1, 1)), 3, [0, 0], ROWS[:2])
        self.assert_fault(("nobody", (1, 2)), 3, [0, 0], ROWS[:3])
        self.assert_fault(("nobody", (1, 0)), 2, [0, 1], [(0, 0, 1, 0)])
        self.assert_fault(("nobody", (0, 3)), 4, [0, 0], ROWS)

    def test_early(self):
        self.assert_fault(("early", 1), 3, [0], [(0, 0, 1, 0), (0, 1, 2, 3)])
        self.assert_fault(("early", 0), 3, [0], [(0, 1, 2, 3), (0, 0, 1, 0)])
        self.assertIsNone(letters_fault(M, 3, [0], [(0, 1, 2, 4), (0, 0, 1, 0)]))
        # A hand may know another letter already, and a source is early with none of its own.
        self.assert_fault(("early", 3), 3, [0, 0], ROWS[:3] + [(1, 1, 2, 5)])
        self.assertIsNone(letters_fault(M, 3, [1], [(0, 1, 0, 0), (0, 1, 2, 2)]))
        self.assert_fault(("early", 0), 3, [0], [(0, 1, 2, 50), (0, 2, 1, 50)])

    def test_gap(self):
        self.assert_fault(("gap", 1), 3, [0], [(0, 0, 1, 0), (0, 0, 2, 1)])
        self.assert_fault(("gap", 1), 3, [0], [(0, 0, 1, 1), (0, 0, 2, 0)])
        self.assertIsNone(letters_fault(M, 3, [0], [(0, 0, 1, 2), (0, 0, 2, 0)]))
        self.assert_fault(("gap", 1), 2, [0, 0], [(0, 0, 1, 5), (1, 0, 1, 5)])
        self.assert_fault(("gap", 2), 2, [0, 0, 0], [(0, 0, 1, 5), (1, 0, 1, 10), (2, 0, 1, 6)])
        self.assert_fault(("gap", 2), 2, [0, 0, 0], [(0, 0, 1, 10), (1, 0, 1, 5), (2, 0, 1, 4)])

    def test_close(self):
        rest = [(0, 2, 1, 100), (1, 2, 0, 200)]
        for distance, wanted in [(-2, None), (-1, ("close", 1)), (0, ("close", 1)), (1, ("close", 1)), (2, None)]:
            rows = [(0, 0, 2, 20), (1, 1, 2, 20 + distance)] + rest
            self.assert_fault(wanted, 3, [0, 1], rows)
        self.assert_fault(("close", 3), 3, [0, 1], rest + [(1, 1, 2, 20), (0, 0, 2, 21)])
        rows = [(0, 0, 3, 20), (1, 1, 3, 40), (2, 2, 3, 21)]
        rows += [(q, 3, h, 100 + 20 * (3 * q + h)) for q in range(3) for h in range(3) if q != h]
        self.assert_fault(("close", 2), 4, [0, 1, 2], rows)

    def test_busy_between_a_sending_and_a_receiving(self):
        machine = Machine(3, 1, 2)
        # Hand 1 receives from 14 on, and sends for 3 units of time from start on.
        for start, busy in [(10, False), (11, False), (12, True), (14, True), (16, True), (17, False), (18, False)]:
            wanted = ("busy", 1) if busy else None
            self.assert_fault(wanted, 2, [0, 1], [(0, 0, 1, 10), (1, 1, 0, start)], machine)
            self.assert_fault(wanted, 2, [0, 1], [(1, 1, 0, start), (0, 0, 1, 10)], machine)

    def test_busy_with_two_sendings_or_two_receivings(self):
        # The gap is at least o: so these rows are told as too near before they are busy.
        machine = Machine(3, 1, 2)
        for distance in range(-5, 6):
            near = abs(distance) < 3
            rows = [(0, 0, 1, 50), (0, 0, 2, 50 + distance)]
            self.assert_fault(("gap", 1) if near else None, 3, [0], rows, machine)
            rows = [(0, 0, 2, 50), (1, 1, 2, 50 + distance), (0, 0, 1, 100), (1, 1, 0, 200)]
            self.assert_fault(("close", 1) if near else None, 3, [0, 1], rows, machine)

    def test_busy_index(self):
        rows = [(0, 0, 1, 0), (1, 1, 0, 30), (2, 0, 1, 60), (3, 1, 0, 63)]
        self.assert_fault(("busy", 3), 2, [0, 1, 0, 1], rows)
        self.assert_fault(("busy", 1), 2, [0, 1, 0, 1], rows[2:] + rows[:2])
        self.assert_fault(("busy", 2), 2, [0, 1, 0, 1], [rows[2], rows[0], rows[3], rows[1]])

    def test_no_hand_is_busy_without_o(self):
        machine = Machine(0, 4, 2)
        for start in range(25):
            self.assert_fault(None, 2, [0, 1], [(0, 0, 1, 10), (1, 1, 0, start)], machine)
            self.assertIsNone(doing(machine, 2, [0], [(0, 0, 1, 10)], 0, start))
            self.assertIsNone(doing(machine, 2, [0], [(0, 0, 1, 10)], 1, start))

    def test_great_machines(self):
        machine = Machine(BILLION, 1, 1)
        for start, wanted in [(0, None), (1, None), (2, ("busy", 1)), (BILLION, ("busy", 1)), (BILLION + 1, ("busy", 1)),
                              (2 * BILLION, ("busy", 1)), (2 * BILLION + 1, None)]:
            self.assert_fault(wanted, 2, [0, 1], [(0, 0, 1, 0), (1, 1, 0, start)], machine)
        for distance, wanted in [(BILLION - 1, ("gap", 1)), (BILLION, None)]:
            self.assert_fault(wanted, 3, [0], [(0, 0, 1, LATEST - distance), (0, 0, 2, LATEST)], machine)

    def test_kinds_in_their_order(self):
        kinds = list(WINDOWS)
        for pair in pairs_of(kinds):
            sources, rows, places = windows(pair)
            why = min(pair, key=kinds.index)
            with self.subTest(pair):
                self.assert_fault((why, places[why]), 3, sources, rows)
        for kind in kinds:
            sources, rows, _ = windows([kind], right=True)
            self.assertIsNone(letters_fault(M, 3, sources, rows))

    def test_against_the_words_of_the_document(self):
        source = random.Random(58)
        found = []
        for _ in range(12000):
            n = source.randint(2, 4)
            sources = [source.randrange(n) for _ in range(source.randint(1, 3))]
            machine = Machine(source.randint(0, 3), source.randint(1, 3), source.randint(1, 2))
            late = source.choice([4, 15, 40, 100])
            rows = []
            for q, first in enumerate(sources):
                hands = [hand for hand in range(n) if hand != first]
                source.shuffle(hands)
                known = {first: 0}
                for hand in hands:
                    sender = source.choice(list(known))
                    start = max(0, known[sender] + source.randint(-1, late))
                    known[hand] = start + machine.letter
                    rows.append((q, sender, hand, start))
            for _ in range(source.choice([0, 0, 0, 1])):
                rows.append((source.randint(0, len(sources)), source.randint(-1, n), source.randint(0, n), 7))
            if source.random() < 0.1:
                rows.pop()
            source.shuffle(rows)
            wanted = plain_fault(machine, n, sources, rows)
            self.assertEqual(letters_fault(machine, n, sources, rows), wanted, (vars(machine), n, sources, rows))
            found.append(wanted)
        self.assert_many_of_each(["letter", "hand", "again", "nobody", "early", "gap", "close", "busy"], found)

    def test_invalid_count(self):
        for n in NO_INTEGERS + [None, 0, 1, -1, 41, 10 ** 30]:
            for sources, thing in [([0, 0], ROWS), ([0, 9], None), (None, None)]:
                self.assert_raises(InvalidCount(), letters_fault, M, n, sources, thing)
                self.assert_raises(InvalidCount(), letters_ends, M, n, sources, thing)
                self.assert_raises(InvalidCount(), known_letters, M, n, sources, thing, 0, 0)
                self.assert_raises(InvalidCount(), doing, M, n, sources, thing, 0, 0)


# For each kind, the sources and the right rows of some letters whose starts lie together,
# the wrong rows instead, and the index of the fault in them. q is the first of these letters.
WINDOWS = {
    "form": ([0], [("q", 0, 1, 0), ("q", 1, 2, 4)], [("q", 0, 1, 0), ("q", 1, 2, 4), (0, 1)], 2),
    "letter": ([0], [("q", 0, 1, 0), ("q", 1, 2, 4)], [("q", 0, 1, 0), (99, 1, 2, 20), ("q", 1, 2, 4)], 1),
    "hand": ([0], [("q", 0, 1, 0), ("q", 1, 2, 4)], [("q", 0, 1, 0), ("q", 1, 2, 4), ("q", 1, 3, 9)], 2),
    "again": ([0], [("q", 0, 1, 0), ("q", 1, 2, 4)], [("q", 0, 1, 0), ("q", 1, 2, 4), ("q", 0, 1, 40)], 2),
    "nobody": ([0], [("q", 0, 1, 0), ("q", 1, 2, 4)], [("q", 0, 1, 0)], None),
    "early": ([0], [("q", 0, 1, 0), ("q", 1, 2, 4)], [("q", 0, 1, 0), ("q", 1, 2, 3)], 1),
    "gap": ([0], [("q", 0, 1, 0), ("q", 0, 2, 2)], [("q", 0, 1, 0), ("q", 0, 2, 1)], 1),
    "close": (
        [0, 1], [("q", 0, 2, 0), ("next", 1, 2, 2), ("q", 2, 1, 20), ("next", 2, 0, 40)],
        [("q", 0, 2, 0), ("next", 1, 2, 1), ("q", 2, 1, 20), ("next", 2, 0, 40)], 1),
    "busy": (
        [0, 1], [("q", 0, 1, 0), ("next", 1, 2, 2), ("q", 0, 2, 20), ("next", 1, 0, 40)],
        [("q", 0, 1, 0), ("next", 1, 2, 3), ("q", 0, 2, 20), ("next", 1, 0, 40)], 1),
}


def windows(kinds, right=False):
    """Return sources, rows and the place of the fault of each kind, one window behind the other."""
    sources, rows, places = [], [], {}
    for kind in kinds:
        window, good, bad, at = WINDOWS[kind]
        numbers = {"q": len(sources), "next": len(sources) + 1}
        shift = 1000 * len(sources)
        places.setdefault(kind, (len(sources), 2) if at is None else len(rows) + at)
        rows += [(numbers.get(row[0], row[0]),) + row[1:-1] + (row[-1] + shift,) for row in (good if right else bad)]
        sources += window
    return sources, rows, places


class Sources(TellCase):

    def assert_wrong(self, at, n, sources):
        for thing in (ROWS, [], None):
            self.assert_raises(InvalidRows(at), letters_fault, M, n, sources, thing)
            self.assert_raises(InvalidRows(at), letters_ends, M, n, sources, thing)
            self.assert_raises(InvalidRows(at), known_letters, M, n, sources, thing, 0, 0)
            self.assert_raises(InvalidRows(at), doing, M, n, sources, thing, 0, 0)

    def test_no_list_of_1_to_40(self):
        for thing in NO_LISTS:
            self.assert_wrong(-1, 3, thing)
        self.assert_wrong(-1, 3, [])
        self.assert_wrong(-1, 3, ())
        self.assert_wrong(-1, 3, [0] * 41)
        self.assert_wrong(-1, 3, [None] * 41)
        self.assertEqual(letters_fault(M, 3, [0] * 40, []), ("nobody", (0, 1)))

    def test_wrong_items(self):
        for wrong in NO_INTEGERS + [None, -1, 3, 10 ** 20]:
            self.assert_wrong(0, 3, [wrong, 0])
            self.assert_wrong(2, 3, (0, 2, wrong, wrong, 0))
            self.assert_wrong(39, 3, [0] * 39 + [wrong])
        self.assert_wrong(1, 2, [0, 2])
        self.assertEqual(letters_fault(M, 40, [39], []), ("nobody", (0, 0)))
        self.assert_wrong(0, 39, [39])


class WhatHandsKnowAndDo(TellCase):

    def test_letters_ends(self):
        self.assertEqual(letters_ends(M, 3, [0, 0], ROWS), [8, 10])
        self.assertEqual(letters_ends(M, 3, (0, 0), tuple(ROWS[::-1])), [8, 10])
        self.assertEqual(letters_ends(M, 2, [1], [(0, 1, 0, LATEST)]), [LATEST + 4])
        self.assertEqual(letters_ends(M, 3, [2, 0], [(1, 0, 2, 50), (0, 2, 0, 0), (0, 2, 1, 4), (1, 0, 1, 10)]), [8, 54])

    def test_known_letters(self):
        for time, wanted in [(0, []), (3, []), (4, [0]), (5, [0]), (6, [0, 1]), (10 ** 16, [0, 1])]:
            self.assertEqual(known_letters(M, 3, [0, 0], ROWS, 1, time), wanted)
        for time, wanted in [(0, []), (7, []), (8, [0]), (9, [0]), (10, [0, 1])]:
            self.assertEqual(known_letters(M, 3, [0, 0], tuple(ROWS[::-1]), 2, time), wanted)
        self.assertEqual(known_letters(M, 3, [0, 0], ROWS, 0, 0), [0, 1])

    def test_known_letters_of_own_and_of_others(self):
        rows = [(0, 0, 1, 10), (1, 1, 0, 0), (2, 1, 0, 5), (3, 0, 1, 0)]
        self.assertIsNone(letters_fault(M, 2, [0, 1, 1, 0], rows))
        for time, wanted in [(0, [0, 3]), (3, [0, 3]), (4, [0, 1, 3]), (8, [0, 1, 3]), (9, [0, 1, 2, 3])]:
            self.assertEqual(known_letters(M, 2, [0, 1, 1, 0], rows, 0, time), wanted)
        for time, wanted in [(0, [1, 2]), (4, [1, 2, 3]), (13, [1, 2, 3]), (14, [0, 1, 2, 3])]:
            self.assertEqual(known_letters(M, 2, [0, 1, 1, 0], rows, 1, time), wanted)

    def test_doing_at_beginnings_and_ends(self):
        machine = Machine(3, 2, 1)
        rows = [(1, 1, 0, 40), (0, 0, 1, 10)]
        for hand, time, wanted in [
                (0, 9, None), (0, 10, ("sending", 1)), (0, 12, ("sending", 1)), (0, 13, None), (1, 14, None),
                (1, 15, ("receiving", 1)), (1, 17, ("receiving", 1)), (1, 18, None), (1, 10, None), (0, 15, None),
                (1, 39, None), (1, 40, ("sending", 0)), (1, 42, ("sending", 0)), (1, 43, None), (0, 44, None),
                (0, 45, ("receiving", 0)), (0, 47, ("receiving", 0)), (0, 48, None), (0, 10 ** 16, None)]:
            self.assertEqual(doing(machine, 2, [0, 1], rows, hand, time), wanted, (hand, time))

    def test_doing_without_a_way(self):
        machine = Machine(2, 0, 1)
        rows = [(0, 0, 1, 0), (0, 1, 2, 4)]
        told = [[doing(machine, 3, [0], rows, hand, time) for time in range(9)] for hand in range(3)]
        send, receive = ("sending", 0), ("receiving", 0)
        self.assertEqual(told[0], [send, send] + [None] * 7)
        self.assertEqual(told[1], [None, None, receive, receive, ("sending", 1), ("sending", 1), None, None, None])
        self.assertEqual(told[2], [None] * 6 + [("receiving", 1)] * 2 + [None])

    def test_against_the_words_of_the_document(self):
        for machine, n, sources, rows in some_right_plans():
            letter = machine.letter
            self.assertIsNone(letters_fault(machine, n, sources, rows))
            ends = [max(row[3] for row in rows if row[0] == q) + letter for q in range(len(sources))]
            self.assertEqual(letters_ends(machine, n, sources, rows), ends)
            times = {0, max(ends)}
            for row in rows:
                for change in (0, machine.o, letter - machine.o, letter):
                    times |= {max(0, row[3] + change + beside) for beside in (-1, 0, 1)}
            for hand, time in product(range(n), sorted(times)):
                known = [q for q in range(len(sources)) if sources[q] == hand or any(
                    row[0] == q and row[2] == hand and row[3] + letter <= time for row in rows)]
                self.assertEqual(known_letters(machine, n, sources, rows, hand, time), known)
                busy = [at for at, row in enumerate(rows) if (hand, time) in busy_times(machine, row)]
                wanted = [("sending" if rows[at][1] == hand else "receiving", at) for at in busy]
                self.assertEqual(doing(machine, n, sources, rows, hand, time), wanted[0] if wanted else None)


class Bounds(TellCase):

    def test_against_the_words_of_the_document(self):
        for o, l, g in MACHINES:
            machine = Machine(o, l, g)
            for n in (2, 3, 4, 5, 8, 17, 40):
                for k in (1, 2, 3, 7, 40):
                    low = least_time(machine, n) + (k - 1) * machine.gap
                    ways = []
                    for d in range(1, n):
                        period = max(d * machine.gap, (d - 1) * machine.gap + 2 * o) if n > 2 else machine.gap
                        ways.append(least_time(machine, n, turns=d) + (k - 1) * period)
                    self.assertEqual(bounds(machine, n, k), (low, min(ways)))

    def test_examples(self):
        self.assertEqual(bounds(M, 3, 2), (8, 10))
        self.assertEqual(bounds(M, 2, 1), (4, 4))
        self.assertEqual(bounds(M, 2, 40), (82, 82))
        self.assertEqual(bounds(Machine(3, 1, 1), 2, 5), (19, 19))
        # Here a letter follows 2 * o later, not G: turns 1 and the least time 14.
        self.assertEqual(bounds(Machine(3, 1, 1), 3, 5), (10 + 12, 14 + 24))

    def test_facts(self):
        for o, l, g in MACHINES:
            machine = Machine(o, l, g)
            for n in range(2, 41):
                for k in (1, 2, 5, 40):
                    low, high = bounds(machine, n, k)
                    self.assertLessEqual(low, high)
                    if k == 1 or n == 2:
                        self.assertEqual(low, high)

    def test_errors(self):
        for wrong in NO_INTEGERS + [None, 0, -1, 41, 10 ** 30]:
            for function in (bounds, letters_plan):
                self.assert_raises(InvalidCount(), function, M, wrong, 1)
                self.assert_raises(InvalidCount(), function, M, 2, wrong)
                self.assert_raises(InvalidCount(), function, M, wrong, wrong)
        for function in (bounds, letters_plan):
            self.assert_raises(InvalidCount(), function, M, 1, 1)
            self.assertEqual(len(function(M, 40, 1)), 2 if function == bounds else 39)

    def test_fact_no_plan_ends_before_low(self):
        for o, l, g, n, k in [
                (0, 1, 1, 3, 2), (1, 0, 1, 3, 2), (0, 2, 1, 3, 2), (1, 1, 2, 2, 3), (1, 1, 1, 4, 1), (0, 3, 2, 3, 2)]:
            machine = Machine(o, l, g)
            low, _ = bounds(machine, n, k)
            for rows in all_letters_plans(n, [0] * k, low - 1 - machine.letter):
                self.assertIsNotNone(letters_fault(machine, n, [0] * k, rows), rows)


class LettersPlans(TellCase):

    def check_plan(self, machine, n, k):
        """Check that the plan is right and ends at high."""
        rows = letters_plan(machine, n, k)
        self.assertIs(type(rows), list)
        self.assertIsNone(letters_fault(machine, n, [0] * k, rows), (vars(machine), n, k))
        self.assertEqual(max(letters_ends(machine, n, [0] * k, rows)), bounds(machine, n, k)[1])

    def test_right_and_ending_at_high(self):
        for o, l, g in MACHINES:
            for n in (2, 3, 4, 5, 8, 17, 40):
                for k in (1, 2, 3, 7, 40):
                    self.check_plan(Machine(o, l, g), n, k)

    def test_all_numbers_of_hands(self):
        for o, l, g in [(1, 2, 2), (3, 1, 2), (0, 3, 5)]:
            for n in range(2, 41):
                self.check_plan(Machine(o, l, g), n, 1 + n % 5)

    def test_great_machines(self):
        for o, l, g in product((0, 1, BILLION), (0, 1, BILLION), (1, BILLION)):
            if (o, l) != (0, 0):
                self.check_plan(Machine(o, l, g), 40, 40)

    def test_two_hands(self):
        self.assertEqual(sorted(letters_plan(M, 2, 3)), [(0, 0, 1, 0), (1, 0, 1, 2), (2, 0, 1, 4)])


if __name__ == "__main__":
    unittest.main()
