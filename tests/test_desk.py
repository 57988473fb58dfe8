"""The desk: points 80 to 87."""

import inspect
import random
import time
import unittest
from itertools import product

from tellontree import desk as module
from tellontree.counts import least_time
from tellontree.desk import Desk
from tellontree.errors import (
    InvalidCount, InvalidPlan, InvalidTime, InvalidTurns, LimitExceeded, NothingLeft, TellError)
from tellontree.machines import Machine
from tellontree.plans import best_plan, earliest, ends, fault, names_of
from tests.helper import ATTRIBUTES, NO_INTEGERS, NO_LISTS, TellCase, wrong_rows

BILLION = 10 ** 9
LATEST = 10 ** 15
M = Machine(1, 2, 2)
OTHER = Machine(0, 3, 1)
PLAN = [(0, 1, 1), (1, 2, 9), (0, 3, 5)]


def numbers(machine):
    """Return the numbers of a machine."""
    return (machine.o, machine.l, machine.g)


def shown(desk):
    """Return what the desk holds."""
    return (numbers(desk.machine), desk.hands, desk.plan())


def answer(function, *args, **named):
    """Return what the call returns, or the name and the attributes of the error that it raises."""
    try:
        return function(*args, **named)
    except TellError as error:
        name = type(error).__name__
        return (name, *[getattr(error, attribute) for attribute in ATTRIBUTES[name]])


def history(desk):
    """Return all that undoing and redoing leads to, and how many of it lie behind; the desk is left as it was."""
    behind = 0
    while answer(desk.undo) is None:
        behind += 1
    states = [shown(desk)]
    while answer(desk.redo) is None:
        states.append(shown(desk))
    for _ in range(len(states) - 1 - behind):
        desk.undo()
    return states, behind


def busy_desk():
    """Return a desk with deeds and undone deeds."""
    desk = Desk.holding(M, 5, best_plan(M, 5))
    desk[4] = (3, 40)
    desk += 3
    desk.hands = 4
    desk.machine = OTHER
    desk[3] = (0, 50)
    desk.undo()
    desk.undo()
    return desk


class PlainDesk:
    """A desk as points 80 to 86 say it, with whole states in two lists and errors as tuples."""

    def __init__(self, machine, n, rows):
        self.state = (machine, n, dict(rows))
        self.done = []
        self.undone = []

    def become(self, machine, n, rows):
        self.done.append(self.state)
        self.undone = []
        self.state = (machine, n, rows)

    def plan(self):
        return [(self.state[2][hand][0], hand, self.state[2][hand][1]) for hand in sorted(self.state[2])]

    def kept(self):
        return (self.state, list(self.done), list(self.undone))

    def do(self, deed):
        """Do the deed, and return None or the error."""
        return getattr(self, deed[0])(*deed[1:])

    def put(self, hand, value):
        machine, n, rows = self.state
        if type(hand) is not int or not 1 <= hand <= n - 1:
            return ("InvalidPlan", "hand", 0)
        if type(value) is not tuple or [type(item) for item in value] != [int, int] or not 0 <= value[1] <= LATEST:
            return ("InvalidPlan", "form", 1)
        if not 0 <= value[0] <= n - 1 or value[0] == hand:
            return ("InvalidPlan", "hand", 1)
        return self.become(machine, n, {**rows, hand: value})

    def drop(self, hand):
        machine, n, rows = self.state
        if hand not in rows:
            return ("NothingLeft", "row")
        return self.become(machine, n, {receiver: rows[receiver] for receiver in rows if receiver != hand})

    def machine(self, machine):
        return self.become(machine, *self.state[1:])

    def hands(self, n):
        machine, _, rows = self.state
        if type(n) is not int or not 1 <= n <= 100:
            return ("InvalidCount",)
        return self.become(machine, n, {hand: row for hand, row in rows.items() if max(hand, row[0]) < n})

    def all_rows(self, plan):
        if isinstance(plan, tuple):
            return plan
        return self.become(*self.state[:2], {receiver: (sender, start) for sender, receiver, start in plan})

    def fill(self, turns):
        return self.all_rows(answer(best_plan, self.state[0], self.state[1], turns=turns))

    def tighten(self):
        return self.all_rows(answer(earliest, self.state[0], self.state[1], self.plan()))

    def later(self, by):
        if type(by) is not int or not 0 <= by <= LATEST:
            return ("InvalidTime",)
        if any(start + by > LATEST for _, start in self.state[2].values()):
            return ("LimitExceeded", "start")
        return self.all_rows([(sender, receiver, start + by) for sender, receiver, start in self.plan()])

    def earlier(self, by):
        if type(by) is not int or not 0 <= by <= LATEST:
            return ("InvalidTime",)
        if any(start - by < 0 for _, start in self.state[2].values()):
            return ("NothingLeft", "time")
        return self.all_rows([(sender, receiver, start - by) for sender, receiver, start in self.plan()])

    def undo(self):
        if not self.done:
            return ("NothingLeft", "undo")
        self.undone.append(self.state)
        self.state = self.done.pop()

    def redo(self):
        if not self.undone:
            return ("NothingLeft", "redo")
        self.done.append(self.state)
        self.state = self.undone.pop()

    def attempt(self, deeds):
        state, done, undone = self.kept()
        for deed in deeds:
            error = self.do(deed)
            if error is not None:
                self.state, self.done, self.undone = state, done, undone
                return error

    def trial(self, deeds):
        state, done, undone = self.kept()
        told = self.attempt(deeds)
        if told is None:
            wrong = fault(self.state[0], self.state[1], self.plan())
            told = (wrong, None if wrong else ends(self.state[0], self.state[1], self.plan()))
        self.state, self.done, self.undone = state, done, undone
        return told


def do(desk, deed):
    """Do the deed on a desk in its own way, not by attempt."""
    word = deed[0]
    if word == "put":
        desk[deed[1]] = deed[2]
    elif word == "machine":
        desk.machine = deed[1]
    elif word == "hands":
        desk.hands = deed[1]
    elif word == "later":
        same = desk
        desk += deed[1]
        assert desk is same
    elif word == "earlier":
        same = desk
        desk -= deed[1]
        assert desk is same
    else:
        return getattr(desk, word)(*deed[1:])


def some_deed(source, n, depth):
    """Return a deed for a desk of about n hands that is mostly right."""
    word = source.choice(["put"] * 8 + ["drop", "machine", "hands", "fill", "tighten", "later", "earlier", "attempt"]
                         + ["undo", "redo"] * 2)
    if word == "put":
        wrong = source.random() < 0.1
        hand = source.choice([0, -1, n, True, "1", None, 1.0]) if wrong else source.randint(1, max(1, n - 1))
        value = (source.randint(0, n), source.randint(0, 30))
        return (word, hand, source.choice([None, [0, 1], (0,), (0, -1), (True, 1)]) if source.random() < 0.1 else value)
    if word == "drop":
        return (word, source.randint(0, n))
    if word == "machine":
        return (word, source.choice([M, OTHER, Machine(2, 1, 1)]))
    if word == "hands":
        return (word, source.choice([n, n, n + 1, n - 1, 0, None]))
    if word == "fill":
        return (word, source.choice([None, 1, 2, 0, True]))
    if word in ("later", "earlier"):
        return (word, source.choice([0, 1, 2, 5, LATEST - 25, LATEST, LATEST + 1, -1, "1"]))
    if word == "attempt":
        deeds = [some_deed(source, n, depth + 1) for _ in range(source.randint(0, 4))] if depth < 3 else []
        return (word, source.choice([list, tuple])(deeds))
    return (word,)


class DeskCase(TellCase):

    def assert_changes_nothing(self, error, desk, deed):
        """Check that the deed raises the error, done itself or by attempt and trial, and changes nothing."""
        before = history(desk)
        self.assert_raises(error, do, desk, deed)
        self.assertEqual(history(desk), before)
        # A deed that leaves all as it is may stand before it, but then there is something to undo.
        firsts = [[]] if deed == ("undo",) else [[], [("machine", desk.machine)]]
        for first in firsts:
            for deeds in (first + [deed], (*first, ("attempt", (deed,))), [("attempt", (*first, ("attempt", [deed])))]):
                for way in (desk.attempt, desk.trial):
                    self.assert_raises(error, way, deeds)
                    self.assertEqual(history(desk), before)


class MakingDesks(DeskCase):

    def test_an_empty_desk(self):
        for n in (1, 2, 100):
            desk = Desk(M, n)
            self.assertEqual((numbers(desk.machine), desk.hands, desk.plan(), len(desk)), ((1, 2, 2), n, [], 0))
            self.assertEqual(history(desk), ([((1, 2, 2), n, [])], 0))
            self.assertEqual(shown(Desk(n=n, machine=M)), shown(desk))

    def test_holding(self):
        for rows in (PLAN, tuple(PLAN), PLAN[::-1]):
            desk = Desk.holding(M, 4, rows)
            self.assertIs(type(desk), Desk)
            self.assertEqual(shown(desk), ((1, 2, 2), 4, [(0, 1, 1), (1, 2, 9), (0, 3, 5)]))
            self.assertEqual(history(desk), ([shown(desk)], 0))
        self.assertEqual(shown(Desk.holding(plan=[], n=1, machine=M)), ((1, 2, 2), 1, []))

    def test_wrong_counts(self):
        for wrong in NO_INTEGERS + [None, 0, -1, 101, 10 ** 30]:
            self.assert_raises(InvalidCount(), Desk, M, wrong)
            self.assert_raises(InvalidCount(), Desk.holding, M, wrong, PLAN)
            self.assert_raises(InvalidCount(), Desk.holding, M, wrong, None)

    def test_wrong_plans(self):
        for wrong in NO_LISTS:
            self.assert_raises(InvalidPlan("form", -1), Desk.holding, M, 4, wrong)
        for why, at, rows in [
                ("form", 1, [(0, 1, 1), [1, 2, 9]]), ("hand", 0, [(1, 0, 5)]), ("again", 1, [(0, 1, 1), (0, 1, 5)]),
                ("nobody", 3, PLAN[:2]), ("early", 1, [(0, 1, 1), (1, 2, 4), (0, 3, 5)]),
                ("gap", 2, [(0, 1, 1), (1, 2, 9), (0, 3, 2)])]:
            self.assert_raises(InvalidPlan(why, at), Desk.holding, M, 4, rows)
            self.assertEqual(fault(M, 4, rows), (why, at))

    def test_held_plans_that_are_changed(self):
        rows = list(PLAN)
        desk = Desk.holding(M, 4, rows)
        rows.clear()
        self.assertEqual(desk.plan(), PLAN)
        rows = desk.plan()
        desk.drop(2)
        self.assertEqual(rows, PLAN)

    def test_interface(self):
        signatures = {
            "__init__": "(self, machine, n)", "drop": "(self, hand)", "plan": "(self)", "rows": "(self)",
            "fault": "(self)", "ends": "(self)", "late": "(self)", "__call__": "(self, time)",
            "fill": "(self, turns=None)", "tighten": "(self)", "undo": "(self)", "redo": "(self)", "twin": "(self)",
            "attempt": "(self, deeds)", "trial": "(self, deeds)",
        }
        for word, signature in signatures.items():
            self.assertEqual(str(inspect.signature(vars(Desk)[word])), signature, word)
        self.assertEqual(str(inspect.signature(Desk.holding)), "(machine, n, plan)")
        for word in ("__setitem__", "__getitem__", "__contains__", "__len__", "__iadd__", "__isub__"):
            self.assertIn(word, vars(Desk))
        for word in ("machine", "hands"):
            self.assertIsInstance(vars(Desk)[word], property)
            self.assertIsNotNone(vars(Desk)[word].fset)
        self.assertIsInstance(vars(Desk)["holding"], classmethod)
        self.assertTrue(inspect.isgeneratorfunction(Desk.rows))
        self.assertEqual((Desk.__module__, Desk.__bases__), (module.__name__, (object,)))


class Properties(DeskCase):

    def test_machine(self):
        desk = Desk.holding(M, 4, PLAN)
        self.assertTrue(desk.machine == M)
        desk.machine = OTHER
        self.assertEqual(shown(desk), ((0, 3, 1), 4, PLAN))
        self.assertTrue(desk.machine == OTHER)
        self.assertEqual(desk.ends(), 12)
        self.assertEqual(history(desk), ([((1, 2, 2), 4, PLAN), ((0, 3, 1), 4, PLAN)], 1))

    def test_machine_that_makes_a_fault(self):
        desk = Desk.holding(M, 4, PLAN)
        desk.machine = Machine(0, 9, 1)
        self.assertEqual(desk.fault(), ("early", 1))
        desk.machine = M * 3
        self.assertEqual(desk.fault(), ("early", 1))
        self.assertEqual(desk.plan(), PLAN)

    def test_hands(self):
        desk = Desk(M, 5)
        for hand, value in [(1, (4, 0)), (2, (1, 7)), (3, (0, 5)), (4, (2, 1))]:
            desk[hand] = value
        desk.hands = 5
        self.assertEqual(desk.plan(), [(4, 1, 0), (1, 2, 7), (0, 3, 5), (2, 4, 1)])
        desk.hands = 4
        self.assertEqual(shown(desk), ((1, 2, 2), 4, [(1, 2, 7), (0, 3, 5)]))
        desk.hands = 3
        self.assertEqual(shown(desk), ((1, 2, 2), 3, [(1, 2, 7)]))
        desk.hands = 100
        self.assertEqual(shown(desk), ((1, 2, 2), 100, [(1, 2, 7)]))
        desk.hands = 2
        self.assertEqual(shown(desk), ((1, 2, 2), 2, []))
        desk.hands = 1
        self.assertEqual(shown(desk), ((1, 2, 2), 1, []))
        for _ in range(6):
            desk.undo()
        self.assertEqual(desk.plan(), [(4, 1, 0), (1, 2, 7), (0, 3, 5), (2, 4, 1)])

    def test_wrong_hands(self):
        desk = busy_desk()
        for wrong in NO_INTEGERS + [None, 0, -1, 101, 10 ** 30]:
            self.assert_changes_nothing(InvalidCount(), desk, ("hands", wrong))


class Rows(DeskCase):

    def test_putting_rows(self):
        desk = Desk(M, 4)
        desk[3] = (2, 7)
        desk[1] = (0, LATEST)
        self.assertEqual(desk.plan(), [(0, 1, LATEST), (2, 3, 7)])
        desk[3] = (0, 0)
        self.assertEqual(desk.plan(), [(0, 1, LATEST), (0, 3, 0)])
        desk[2] = (3, 1)
        self.assertEqual(desk.plan(), [(0, 1, LATEST), (3, 2, 1), (0, 3, 0)])
        self.assertEqual([desk[1], desk[2], desk[3]], [(0, LATEST), (3, 1), (0, 0)])
        self.assertEqual(len(desk), 3)
        desk.drop(hand=1)
        self.assertEqual(desk.plan(), [(3, 2, 1), (0, 3, 0)])
        self.assertIs(desk.drop(2), None)
        self.assertEqual((desk.plan(), len(desk)), ([(0, 3, 0)], 1))

    def test_kinds_of_values(self):
        desk = Desk.holding(M, 4, PLAN)
        self.assertEqual((type(desk[1]), type(desk.plan()), type(len(desk))), (tuple, list, int))
        self.assertIs(1 in desk, True)
        self.assertIs(0 in desk, False)
        self.assertEqual({type(row) for row in desk.plan()}, {tuple})
        self.assertTrue(inspect.isgenerator(desk.rows()))

    def test_wrong_receivers(self):
        for desk in (busy_desk(), Desk(M, 4)):
            for wrong in NO_INTEGERS + [None, 0, -1, desk.hands, 100, 10 ** 30]:
                for value in ((0, 1), None, (9, 9), [0, 1]):
                    self.assert_changes_nothing(InvalidPlan("hand", 0), desk, ("put", wrong, value))
        self.assert_changes_nothing(InvalidPlan("hand", 0), Desk(M, 1), ("put", 1, (0, 0)))

    def test_wrong_values(self):
        desk = busy_desk()
        for wrong in NO_INTEGERS + NO_LISTS + wrong_rows((0, 5)) + [(0, 5, 1), (0, -1), (7, -1), (1, LATEST + 1)]:
            self.assert_changes_nothing(InvalidPlan("form", 1), desk, ("put", 1, wrong))

    def test_wrong_senders(self):
        desk = busy_desk()
        for hand in (1, 3):
            for wrong in (-1, desk.hands, hand, 10 ** 30, -10 ** 30):
                self.assert_changes_nothing(InvalidPlan("hand", 1), desk, ("put", hand, (wrong, 5)))

    def test_rows_that_are_not_there(self):
        desk = busy_desk()
        desk.drop(2)
        for hand in (2, 0, -1, 5, 100, 10 ** 30, -10 ** 30):
            self.assert_raises(NothingLeft("row"), lambda: desk[hand])
            self.assert_changes_nothing(NothingLeft("row"), desk, ("drop", hand))
            self.assertIs(hand in desk, False)
            self.assertIs(hand not in desk, True)

    def test_rows_is_like_plan(self):
        for desk in (Desk(M, 3), Desk.holding(M, 4, PLAN), busy_desk()):
            self.assertEqual(list(desk.rows()), desk.plan())
            self.assertEqual([row for row in desk.rows()], desk.plan())
            self.assertEqual(len(desk.plan()), len(desk))
            receivers = [receiver for _, receiver, _ in desk.plan()]
            self.assertEqual([hand for hand in range(-3, 9) if hand in desk], receivers)

    def test_told_lists_that_are_changed(self):
        desk = Desk.holding(M, 4, PLAN)
        for told in (desk.plan(), desk(5), list(desk.rows())):
            told.reverse()
            told.append(None)
        self.assertEqual((desk.plan(), desk(5)), (PLAN, [0, 1]))
        self.assertIsNot(desk.plan(), desk.plan())

    def test_rows_need_not_make_a_plan(self):
        desk = Desk(M, 4)
        desk[1] = (2, 0)
        desk[2] = (1, 0)
        self.assertEqual((desk.plan(), desk.fault()), ([(2, 1, 0), (1, 2, 0)], ("nobody", 3)))
        desk[3] = (0, 0)
        self.assertEqual(desk.fault(), ("early", 0))


class Questions(DeskCase):

    def test_a_right_plan(self):
        desk = Desk.holding(M, 4, PLAN)
        self.assertEqual((desk.fault(), desk.ends(), desk.late()), (None, 13, 13 - least_time(M, 4)))
        self.assertEqual([desk(time) for time in (0, 4, 5, 8, 9, 12, 13, 10 ** 16)], [
            [0], [0], [0, 1], [0, 1], [0, 1, 3], [0, 1, 3], [0, 1, 2, 3], [0, 1, 2, 3]])
        self.assertEqual(desk(time=9), [0, 1, 3])

    def test_one_hand(self):
        desk = Desk(M, 1)
        self.assertEqual((desk.fault(), desk.ends(), desk.late(), desk(0), desk(10 ** 16)), (None, 0, 0, [0], [0]))

    def test_each_fault(self):
        for n, rows, wrong in [(3, [(0, 2, 0)], ("nobody", 1)), (3, [(0, 1, 0), (1, 2, 3)], ("early", 1)),
                               (3, [(0, 1, 1), (0, 2, 0)], ("gap", 1)), (2, [], ("nobody", 1))]:
            desk = Desk(M, n)
            for sender, receiver, start in rows:
                desk[receiver] = (sender, start)
            self.assertEqual(desk.fault(), wrong)
            for way in (desk.ends, desk.late, desk.tighten):
                self.assert_raises(InvalidPlan(*wrong), way)
            self.assert_raises(InvalidPlan(*wrong), desk, 0)
            self.assert_raises(InvalidPlan(*wrong), desk, 10 ** 16)
            self.assert_raises(InvalidTime(), desk, -1)

    def test_wrong_times(self):
        for desk in (Desk.holding(M, 4, PLAN), Desk(M, 4), busy_desk()):
            before = history(desk)
            for wrong in NO_INTEGERS + [None, -1, 10 ** 16 + 1, -10 ** 30, 10 ** 30]:
                self.assert_raises(InvalidTime(), desk, wrong)
            self.assertEqual(history(desk), before)

    def test_against_the_functions(self):
        source = random.Random(82)
        wrong = 0
        for _ in range(300):
            n = source.randint(1, 6)
            machine = source.choice([M, OTHER, Machine(2, 1, 1)])
            desk = Desk(machine, n)
            for hand in range(1, n):
                if source.random() < 0.95:
                    desk[hand] = (source.randint(0, hand - 1), source.randint(0, 4) + 6 * hand)
            rows = desk.plan()
            self.assertEqual(desk.fault(), fault(machine, n, rows))
            self.assertEqual(answer(desk.ends), answer(ends, machine, n, rows))
            wrong += desk.fault() is not None
            for asked in (0, 3, 12, 40):
                told = sorted([0] + [receiver for _, receiver, start in rows if start + machine.letter <= asked])
                self.assertEqual(answer(desk, asked), told if desk.fault() is None else ("InvalidPlan", *desk.fault()))
            late = desk.ends() - least_time(machine, n) if desk.fault() is None else ("InvalidPlan", *desk.fault())
            self.assertEqual(answer(desk.late), late)
        self.assertTrue(50 < wrong < 250)


class FurtherDeeds(DeskCase):

    def test_fill(self):
        for n in (1, 2, 7, 100):
            for machine in (M, Machine(2, 1, 1), Machine(BILLION, BILLION, 1)):
                desk = Desk(machine, n)
                self.assertIs(desk.fill(), None)
                self.assertEqual(desk.plan(), sorted(best_plan(machine, n), key=lambda row: row[1]))
                self.assertEqual((desk.fault(), desk.late()), (None, 0))
                for turns in (None, 4, 10 ** 12):
                    for fill in (lambda: desk.fill(turns), lambda: desk.fill(turns=turns)):
                        desk = Desk(machine, n)
                        fill()
                        self.assertEqual(desk.plan(), best_plan(machine, n, turns=turns))
                        desk += 7
                        desk.fill(turns)
                        self.assertEqual(desk.plan(), best_plan(machine, n, turns=turns))

    def test_fill_replaces_all_rows(self):
        desk = Desk(M, 3)
        desk[1] = (2, 9)
        desk[2] = (1, 9)
        desk.fill(1)
        self.assertEqual(desk.plan(), [(0, 1, 0), (1, 2, 4)])

    def test_wrong_fills(self):
        desk = busy_desk()
        for wrong in NO_INTEGERS + [0, -1, 10 ** 12 + 1]:
            self.assert_changes_nothing(InvalidTurns(), desk, ("fill", wrong))
        desk = Desk(M, 100)
        desk[1] = (0, 5)
        desk.hands = 99
        desk.undo()
        before = history(desk)
        self.assert_raises(LimitExceeded("time"), desk.fill, 1)
        self.assert_raises(InvalidTurns(), desk.fill, turns=0)
        self.assert_raises(LimitExceeded("time"), desk.attempt, [("put", 2, (1, 1)), ("fill", 1)])
        self.assertEqual(history(desk), before)
        desk.hands = 41
        desk.fill(1)
        self.assertEqual(desk.ends(), 160)

    def test_tighten(self):
        desk = Desk.holding(M, 4, PLAN)
        self.assertIs(desk.tighten(), None)
        self.assertEqual(desk.plan(), [(0, 1, 0), (1, 2, 4), (0, 3, 2)])
        self.assertEqual(desk.plan(), earliest(M, 4, PLAN))
        desk.undo()
        self.assertEqual(desk.plan(), PLAN)

    def test_tighten_with_a_fault(self):
        desk = busy_desk()
        desk[1] = (0, LATEST)
        desk[2] = (0, LATEST)
        desk += 0
        desk.undo()
        self.assertEqual(desk.fault(), ("gap", 1))
        self.assert_changes_nothing(InvalidPlan("gap", 1), desk, ("tighten",))
        self.assert_changes_nothing(InvalidPlan("nobody", 1), Desk(M, 2), ("tighten",))

    def test_later_and_earlier(self):
        desk = same = Desk.holding(M, 4, PLAN)
        desk += 7
        self.assertIs(desk, same)
        self.assertEqual(desk.plan(), [(0, 1, 8), (1, 2, 16), (0, 3, 12)])
        desk -= 8
        self.assertIs(desk, same)
        self.assertEqual(desk.plan(), [(0, 1, 0), (1, 2, 8), (0, 3, 4)])
        desk += 0
        desk -= 0
        self.assertEqual(len(history(desk)[0]), 5)
        desk += LATEST - 8
        self.assertEqual(desk[2], (1, LATEST))
        desk -= LATEST - 8
        self.assertEqual(desk.plan(), [(0, 1, 0), (1, 2, 8), (0, 3, 4)])

    def test_without_rows(self):
        desk = same = Desk(M, 4)
        desk += LATEST
        desk -= LATEST
        self.assertIs(desk, same)
        self.assertEqual(history(desk), ([((1, 2, 2), 4, [])] * 3, 2))

    def test_wrong_times(self):
        desk = busy_desk()
        for wrong in NO_INTEGERS + [None, -1, LATEST + 1, 10 ** 30, -10 ** 30]:
            for word in ("later", "earlier"):
                self.assert_changes_nothing(InvalidTime(), desk, (word, wrong))
                self.assert_raises(InvalidTime(), do, Desk(M, 1), (word, wrong))

    def test_limits_of_starts(self):
        desk = Desk.holding(M, 4, PLAN)
        desk += 5
        desk.undo()
        self.assert_changes_nothing(LimitExceeded("start"), desk, ("later", LATEST - 8))
        self.assert_changes_nothing(LimitExceeded("start"), desk, ("later", LATEST))
        self.assert_changes_nothing(NothingLeft("time"), desk, ("earlier", 2))
        self.assert_changes_nothing(NothingLeft("time"), desk, ("earlier", LATEST))
        desk += LATEST - 9
        desk -= LATEST - 8
        self.assertEqual(desk.plan(), [(0, 1, 0), (1, 2, 8), (0, 3, 4)])

    def test_facts(self):
        source = random.Random(87)
        for _ in range(300):
            n = source.randint(1, 9)
            machine = source.choice([M, OTHER, Machine(2, 1, 1)])
            rows = [(sender, receiver, start + receiver * source.randint(0, 3) * 20)
                    for sender, receiver, start in best_plan(machine, n, turns=source.choice([None, 1, 2]))]
            if fault(machine, n, rows) is None:
                desk = Desk.holding(machine, n, rows)
                end = desk.ends()
                desk += 5
                self.assertEqual((desk.fault(), desk.ends()), (None, end + 5 if n > 1 else 0))
                desk -= 3
                self.assertEqual((desk.fault(), desk.ends()), (None, end + 2 if n > 1 else 0))
                desk.tighten()
                self.assertIsNone(desk.fault())
                self.assertLessEqual(desk.ends(), end)
                tight = desk.plan()
                self.assertEqual(names_of(machine, n, tight), names_of(machine, n, rows))
                desk.tighten()
                self.assertEqual(desk.plan(), tight)


class History(DeskCase):

    def test_to_the_ends(self):
        desk = Desk(M, 4)
        states = [shown(desk)]
        for deed in [("put", 1, (0, 5)), ("put", 1, (0, 5)), ("hands", 4), ("machine", M), ("later", 0), ("earlier", 5),
                     ("fill", None), ("tighten",), ("fill", 1), ("drop", 2), ("machine", OTHER), ("hands", 3)]:
            self.assertIsNone(do(desk, deed))
            states.append(shown(desk))
            self.assertEqual(history(desk), (states, len(states) - 1))
        for at in range(len(states) - 2, -1, -1):
            self.assertIs(desk.undo(), None)
            self.assertEqual(shown(desk), states[at])
        self.assert_raises(NothingLeft("undo"), desk.undo)
        self.assertEqual(history(desk), (states, 0))
        for at in range(1, len(states)):
            self.assertIs(desk.redo(), None)
            self.assertEqual(shown(desk), states[at])
        self.assert_raises(NothingLeft("redo"), desk.redo)
        self.assertEqual(history(desk), (states, len(states) - 1))

    def test_nothing_to_undo_or_redo(self):
        for desk in (Desk(M, 4), Desk.holding(M, 4, PLAN), busy_desk().twin()):
            self.assert_changes_nothing(NothingLeft("undo"), desk, ("undo",))
            self.assert_changes_nothing(NothingLeft("redo"), desk, ("redo",))

    def test_a_new_deed_takes_away_the_undone_ones(self):
        for deed in [("put", 1, (0, 5)), ("hands", 4), ("machine", M), ("later", 0), ("earlier", 0), ("fill", None),
                     ("tighten",), ("drop", 2)]:
            desk = Desk.holding(M, 4, PLAN)
            for by in (1, 2, 3):
                desk += by
            desk.undo()
            desk.undo()
            first = history(desk)[0][:2]
            do(desk, deed)
            self.assertEqual(history(desk), (first + [shown(desk)], 2))
            self.assert_raises(NothingLeft("redo"), desk.redo)

    def test_twins(self):
        desk = busy_desk()
        before = history(desk)
        twin = desk.twin()
        self.assertIsNot(twin, desk)
        self.assertIs(type(twin), Desk)
        self.assertEqual(history(twin), ([shown(desk)], 0))
        twin[1] = (0, 77)
        twin.hands = 2
        twin.machine = OTHER
        twin += 3
        self.assertEqual(history(desk), before)
        self.assertEqual(shown(twin), ((0, 3, 1), 2, [(0, 1, 80)]))
        twin.undo()
        kept = history(twin)
        desk.fill()
        desk.drop(1)
        desk.undo()
        self.assertEqual(history(twin), kept)
        again = twin.twin()
        again.tighten()
        self.assertEqual(history(twin), kept)

    def test_many_deeds(self):
        desk = Desk(M, 100)
        desk.fill()
        for by in range(3000):
            desk += by
        for _ in range(3001):
            desk.undo()
        self.assertEqual(desk.plan(), [])
        self.assert_raises(NothingLeft("undo"), desk.undo)
        for _ in range(3001):
            desk.redo()
        self.assertEqual(desk[1], (0, 2999 * 1500))


class Attempts(DeskCase):

    def test_all_deeds(self):
        deeds = [("put", 1, (0, 5)), ("put", 2, (1, 9)), ("drop", 1), ("machine", OTHER), ("hands", 5), ("fill", 2),
                 ("fill", None), ("later", 9), ("earlier", 3), ("tighten",), ("undo",), ("undo",), ("redo",),
                 ("attempt", [("later", 1), ("undo",)]), ("attempt", ())]
        for kind in (list, tuple):
            desk, other = Desk(M, 4), Desk(M, 4)
            self.assertIs(desk.attempt(kind(deeds)), None)
            for deed in deeds:
                do(other, deed)
            self.assertEqual(history(desk), history(other))
        self.assertEqual(shown(Desk(M, 4)), ((1, 2, 2), 4, []))

    def test_no_deeds(self):
        for desk in (busy_desk(), Desk(M, 3)):
            before = history(desk)
            for deeds in ([], (), [("attempt", [])], (("attempt", (("attempt", (("attempt", ()),)),)),)):
                self.assertIs(desk.attempt(deeds=deeds), None)
                self.assertEqual(history(desk), before)

    def test_each_deed_stands_alone(self):
        desk = Desk(M, 4)
        desk.attempt([("put", 1, (0, 5)), ("attempt", [("put", 2, (0, 9)), ("later", 1)]), ("put", 3, (0, 1))])
        self.assertEqual(len(history(desk)[0]), 5)
        desk.undo()
        self.assertEqual(desk.plan(), [(0, 1, 6), (0, 2, 10)])
        desk.undo()
        self.assertEqual(desk.plan(), [(0, 1, 5), (0, 2, 9)])
        desk.redo()
        self.assertEqual(desk.plan(), [(0, 1, 6), (0, 2, 10)])

    def test_undo_and_redo_inside(self):
        desk = busy_desk()
        states, behind = history(desk)
        desk.attempt([("undo",), ("undo",), ("redo",)])
        self.assertEqual(history(desk), (states, behind - 1))
        desk.attempt([("undo",)] * (behind - 1) + [("redo",)] * (len(states) - 1))
        self.assertEqual(history(desk), (states, len(states) - 1))
        desk.attempt([("undo",), ("undo",), ("put", 1, (0, 5))])
        self.assertEqual(history(desk)[0][:-1], states[:len(states) - 2])

    def test_an_error_behind_undo_and_redo(self):
        desk = busy_desk()
        before = history(desk)
        behind = before[1]
        for deeds, error in [
                ([("undo",)] * (behind + 1), NothingLeft("undo")), ([("redo",)] * 3, NothingLeft("redo")),
                ([("undo",), ("put", 1, (0, 5)), ("redo",)], NothingLeft("redo")),
                ([("later", 1), ("redo",)], NothingLeft("redo")),
                ([("undo",), ("undo",), ("attempt", [("later", 1), ("hands", 0)])], InvalidCount()),
                ([("attempt", [("undo",), ("attempt", [("redo",), ("fill", 0)])])], InvalidTurns()),
                ([("hands", 2), ("put", 2, (0, 1))], InvalidPlan("hand", 0)),
                ([("put", 1, (0, 1)), ("put", 2, (2, 1))], InvalidPlan("hand", 1)),
                ([("put", 1, (0, 1)), ("put", 2, [0, 1])], InvalidPlan("form", 1)),
                ([("drop", 1), ("drop", 1)], NothingLeft("row")), ([("later", LATEST)], LimitExceeded("start")),
                ([("later", 5), ("earlier", LATEST)], NothingLeft("time")),
                ([("later", 5), ("earlier", -1)], InvalidTime()),
                ([("drop", 1), ("tighten",)], InvalidPlan("nobody", 1))]:
            for way in (desk.attempt, desk.trial):
                self.assert_raises(error, way, deeds)
                self.assertEqual(history(desk), before)
                self.assert_raises(error, way, (("undo",), ("redo",), ("attempt", tuple(deeds))))
                self.assertEqual(history(desk), before)

    def test_nested_four_deep(self):
        for depth, wrong in product(range(1, 5), range(5)):
            desk = busy_desk()
            before = history(desk)
            deeds = [("later", 4)]
            for level in range(1, depth):
                deeds = [("later", 1), ("attempt", deeds), ("later", 1)]
                if level == wrong:
                    deeds.append(("hands", 0))
            if depth == wrong:
                deeds.append(("hands", 0))
            if 1 <= wrong <= depth:
                self.assert_raises(InvalidCount(), desk.attempt, deeds)
                self.assertEqual(history(desk), before)
            else:
                start = desk[1][1]
                desk.attempt(deeds)
                self.assertEqual(desk[1][1], start + 4 + 2 * (depth - 1))
                self.assertEqual(history(desk)[1], before[1] + 2 * depth - 1)

    def test_deeds_that_are_changed(self):
        deeds = [("put", 1, (0, 5)), ("attempt", [("put", 2, (0, 9))])]
        desk = Desk(M, 4)
        desk.attempt(deeds)
        self.assertEqual(deeds, [("put", 1, (0, 5)), ("attempt", [("put", 2, (0, 9))])])
        deeds[1][1].clear()
        deeds.clear()
        self.assertEqual(len(history(desk)[0]), 3)
        self.assertEqual(desk.plan(), [(0, 1, 5), (0, 2, 9)])

    def test_trial(self):
        desk = busy_desk()
        before = history(desk)
        for deeds, told in [
                ([], (None, desk.ends())), ([("fill", None)], (None, least_time(M, desk.hands))),
                ((("hands", 2), ("put", 1, (0, 7))), (None, 11)), ([("hands", 1)], (None, 0)),
                ([("hands", 2), ("drop", 1)], (("nobody", 1), None)), ([("redo",), ("redo",), ("fill", 1)], (None, 9)),
                ([("undo",)] * before[1], (None, least_time(M, 5))),
                ([("undo",), ("attempt", [("hands", 3), ("fill", 1)]), ("later", 2)], (None, 10))]:
            got = desk.trial(deeds)
            self.assertEqual((type(got), got), (tuple, told))
            self.assertEqual(history(desk), before)
        self.assertEqual(desk.trial(deeds=[("hands", 1)]), (None, 0))

    def test_trial_of_an_error(self):
        desk = busy_desk()
        before = history(desk)
        self.assert_raises(NothingLeft("row"), desk.trial, [("fill", None), ("drop", 9)])
        self.assertEqual(history(desk), before)


class AgainstAPlainDesk(DeskCase):

    def check_same(self, desk, plain):
        """Check all that the desk shows against the plain desk."""
        machine, n, rows = plain.state
        plan = plain.plan()
        self.assertEqual(shown(desk), (numbers(machine), n, plan))
        self.assertEqual((len(desk), list(desk.rows())), (len(rows), plan))
        for hand in range(-1, n + 2):
            self.assertIs(hand in desk, hand in rows)
            self.assertEqual(answer(lambda: desk[hand]), rows.get(hand, ("NothingLeft", "row")))
        wrong = fault(machine, n, plan)
        self.assertEqual(desk.fault(), wrong)
        refused = None if wrong is None else ("InvalidPlan", *wrong)
        self.assertEqual(answer(desk.ends), refused or ends(machine, n, plan))
        self.assertEqual(answer(desk.late), refused or ends(machine, n, plan) - least_time(machine, n))
        known = [0] + [receiver for _, receiver, start in plan if start + machine.letter <= 17]
        self.assertEqual(answer(desk, 17), refused or known)
        states = plain.done + [plain.state] + plain.undone[::-1]
        told = [(numbers(one), many, [(held[hand][0], hand, held[hand][1]) for hand in sorted(held)])
                for one, many, held in states]
        self.assertEqual(history(desk), (told, len(plain.done)))

    def test_random_deeds(self):
        source = random.Random(84)
        errors, right = {}, {}
        for _ in range(150):
            n = source.randint(1, 6)
            desk, plain = Desk(M, n), PlainDesk(M, n, {})
            for _ in range(25):
                deed = some_deed(source, desk.hands, 0)
                if source.random() < 0.1:
                    self.assertEqual(answer(desk.trial, [deed]), plain.trial([deed]), deed)
                wanted = plain.do(deed)
                got = answer(desk.attempt, [deed]) if source.random() < 0.3 else answer(do, desk, deed)
                self.assertEqual(got, wanted, deed)
                if wanted is None:
                    right[deed[0]] = right.get(deed[0], 0) + 1
                else:
                    errors[wanted] = errors.get(wanted, 0) + 1
                self.check_same(desk, plain)
        self.assertEqual(len(right), 11)
        self.assertGreater(min(right.values()), 10)
        for error in [("InvalidPlan", "hand", 0), ("InvalidPlan", "form", 1), ("InvalidPlan", "hand", 1),
                      ("InvalidCount",), ("InvalidTurns",), ("InvalidTime",), ("NothingLeft", "row"),
                      ("NothingLeft", "undo"), ("NothingLeft", "redo"), ("NothingLeft", "time"),
                      ("LimitExceeded", "start")]:
            self.assertGreater(errors.get(error, 0), 10, error)


class Quickness(DeskCase):

    def check(self, function, *args):
        """Check that the call is quick, and return what it returns."""
        begin = time.monotonic()
        told = function(*args)
        # A call takes some hundredths of a second; a busy computer gets a hundred times as much.
        self.assertLess(time.monotonic() - begin, 3)
        return told

    def test_great_desks(self):
        for machine in (Machine(BILLION, BILLION, 1), Machine(0, 1, BILLION), Machine(BILLION, BILLION, BILLION), M):
            desk = Desk(machine, 100)
            for deed in (("fill", None), ("later", 10 ** 12), ("tighten",), ("machine", machine)):
                self.check(do, desk, deed)
            self.assertEqual(self.check(desk.late), 0)
            self.check(desk, 10 ** 16)
            sixty = [("fill", None), ("tighten",), ("later", 1)] * 20
            self.check(desk.attempt, sixty)
            self.check(desk.trial, [("attempt", [("attempt", [("attempt", sixty)])])] + sixty[:59])
            self.check(desk.attempt, [("attempt", [("undo",), ("redo",)] * 30)] * 60)
            self.assertEqual(len(history(desk)[0]), 65)


if __name__ == "__main__":
    unittest.main()
