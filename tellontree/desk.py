"""The desk: a plan that is being made, and the history of its states."""

from tellontree.checks import MOST_PLANNED, check_count, check_time, is_between
from tellontree.counts import least_time
from tellontree.errors import InvalidPlan, LimitExceeded, NothingLeft
from tellontree.faults import LATEST_START, is_row, refuse
from tellontree.plans import best_plan, earliest, ends, fault

LATEST_QUESTION = 10 ** 16


def by_receiver(plan):
    """Return the dict of a plan: (sender, start) for each receiver."""
    return {receiver: (sender, start) for sender, receiver, start in plan}


def moved(held, by):
    """Return the dict of the same rows with starts that are later by so much."""
    return {receiver: (sender, start + by) for receiver, (sender, start) in held.items()}


class Desk:
    """A machine, a number of hands and rows of a plan, with the deeds that led to them.

    A state is a tuple of these three, the rows as a dict from receivers to (sender, start). No state
    is ever changed: each deed adds a new one to the list of states, and undoing and redoing walk in it.
    """

    def __init__(self, machine, n):
        check_count(n, 1, MOST_PLANNED)
        self._states = [(machine, n, {})]
        self._at = 0

    @classmethod
    def holding(cls, machine, n, plan):
        """Return a desk with the rows of a right plan."""
        desk = cls(machine, n)
        refuse(fault(machine, n, plan))
        desk._states = [(machine, n, by_receiver(plan))]
        return desk

    def _now(self):
        """Return the state that the desk shows."""
        return self._states[self._at]

    def _become(self, machine, n, held):
        """Do a deed behind which the desk has this state; the undone deeds are gone."""
        del self._states[self._at + 1:]
        self._states.append((machine, n, held))
        self._at += 1

    def _take_over(self, other):
        """Hold what the other desk holds, with the same history."""
        self._states = list(other._states)
        self._at = other._at

    @property
    def machine(self):
        """The machine of the desk."""
        return self._now()[0]

    @machine.setter
    def machine(self, value):
        _, n, held = self._now()
        self._become(value, n, held)

    @property
    def hands(self):
        """The number of hands of the desk."""
        return self._now()[1]

    @hands.setter
    def hands(self, value):
        check_count(value, 1, MOST_PLANNED)
        machine, _, held = self._now()
        kept = {receiver: row for receiver, row in held.items() if receiver < value and row[0] < value}
        self._become(machine, value, kept)

    def __setitem__(self, hand, value):
        machine, n, held = self._now()
        if not is_between(hand, 1, n - 1):
            raise InvalidPlan("hand", 0)
        if not is_row(value, 2):
            raise InvalidPlan("form", 1)
        if not 0 <= value[0] < n or value[0] == hand:
            raise InvalidPlan("hand", 1)
        self._become(machine, n, {**held, hand: value})

    def __getitem__(self, hand):
        held = self._now()[2]
        if hand not in held:
            raise NothingLeft("row")
        return held[hand]

    def __contains__(self, hand):
        return hand in self._now()[2]

    def __len__(self):
        return len(self._now()[2])

    def __iter__(self):
        raise TypeError("a desk is not iterated over, its rows are")

    def drop(self, hand):
        """Take away the row of the receiver."""
        machine, n, held = self._now()
        if hand not in held:
            raise NothingLeft("row")
        self._become(machine, n, {receiver: held[receiver] for receiver in held if receiver != hand})

    def rows(self):
        """Yield the rows in the order of their receivers."""
        held = self._now()[2]
        for receiver in sorted(held):
            sender, start = held[receiver]
            yield (sender, receiver, start)

    def plan(self):
        """Return the list of the rows in the order of their receivers."""
        return list(self.rows())

    def fault(self):
        """Return the first fault of the plan, or None."""
        return fault(self.machine, self.hands, self.plan())

    def ends(self):
        """Return the time at which the plan ends."""
        return ends(self.machine, self.hands, self.plan())

    def late(self):
        """Return by how much the plan ends behind the least time."""
        return self.ends() - least_time(self.machine, self.hands)

    def __call__(self, time):
        check_time(time, LATEST_QUESTION)
        refuse(self.fault())
        told = [receiver for _, receiver, start in self.plan() if start + self.machine.letter <= time]
        return [0] + told

    def fill(self, turns=None):
        """Replace all rows by those of a plan that ends as early as any."""
        machine, n, _ = self._now()
        self._become(machine, n, by_receiver(best_plan(machine, n, turns=turns)))

    def tighten(self):
        """Make each row start as early as the shape of the plan allows."""
        machine, n, _ = self._now()
        self._become(machine, n, by_receiver(earliest(machine, n, self.plan())))

    def _move_later(self, by):
        """Make all starts later."""
        check_time(by, LATEST_START)
        machine, n, held = self._now()
        if max([start for _, start in held.values()], default=0) + by > LATEST_START:
            raise LimitExceeded("start")
        self._become(machine, n, moved(held, by))

    def _move_earlier(self, by):
        """Make all starts earlier."""
        check_time(by, LATEST_START)
        machine, n, held = self._now()
        if min([start for _, start in held.values()], default=by) < by:
            raise NothingLeft("time")
        self._become(machine, n, moved(held, -by))

    def __iadd__(self, by):
        self._move_later(by)
        return self

    def __isub__(self, by):
        self._move_earlier(by)
        return self

    def undo(self):
        """Bring back what the desk held before the last deed that is not undone."""
        if self._at == 0:
            raise NothingLeft("undo")
        self._at -= 1

    def redo(self):
        """Do the deed again that was undone last."""
        if self._at == len(self._states) - 1:
            raise NothingLeft("redo")
        self._at += 1

    def twin(self):
        """Return a new desk that holds the same, with an empty history."""
        machine, n, held = self._now()
        desk = Desk(machine, n)
        desk._states = [(machine, n, held)]
        return desk

    def _behind(self, deeds):
        """Return a new desk with the same history, behind these deeds."""
        desk = self.twin()
        desk._take_over(self)
        for deed in deeds:
            desk._do(deed)
        return desk

    def _do(self, deed):
        """Do the deed that a tuple tells."""
        word = deed[0]
        if word == "put":
            self[deed[1]] = deed[2]
        elif word == "drop":
            self.drop(deed[1])
        elif word == "machine":
            self.machine = deed[1]
        elif word == "hands":
            self.hands = deed[1]
        elif word == "fill":
            self.fill(deed[1])
        elif word == "tighten":
            self.tighten()
        elif word == "later":
            self._move_later(deed[1])
        elif word == "earlier":
            self._move_earlier(deed[1])
        elif word == "undo":
            self.undo()
        elif word == "redo":
            self.redo()
        else:
            self.attempt(deed[1])

    def attempt(self, deeds):
        """Do all the deeds, or, if one of them raises an error, none."""
        self._take_over(self._behind(deeds))

    def trial(self, deeds):
        """Return the fault, or None, and the end, or None, that the deeds would lead to."""
        desk = self._behind(deeds)
        wrong = desk.fault()
        return (wrong, desk.ends() if wrong is None else None)
