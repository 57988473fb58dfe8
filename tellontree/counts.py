"""Counts of the growing tree: how many hands can know by a time."""

from math import comb

from tellontree.checks import MOST_HANDS, check_count, check_roots, check_time, check_turns
from tellontree.errors import LimitExceeded

MOST_COUNT = 10 ** 40
FREE_DEPTHS = 120
TURNS_DEPTHS = 40


def least_where(low, high, holds):
    """Return the least integer from low to high for which holds is true.

    It must be true for high, and for each integer behind one for which it is true.
    """
    while low < high:
        middle = (low + high) // 2
        if holds(middle):
            high = middle
        else:
            low = middle + 1
    return high


def within_limit(many):
    """Return the number many; raise LimitExceeded if it is too great for an answer."""
    if many > MOST_COUNT:
        raise LimitExceeded("count")
    return many


class Tree:
    """The growing tree of a machine for turns and roots.

    Of a name (r, i1, .., ik) only r, its depth k and the sum of i1 to ik decide
    when it is known. So names are counted by counting the tuples i1 to ik.
    """

    def __init__(self, machine, turns, roots):
        check_turns(turns)
        check_roots(roots)
        self.letter = machine.letter
        self.gap = machine.gap
        self.turns = turns
        self.roots = tuple(roots)
        if turns is None:
            self.horizon = FREE_DEPTHS * self.letter
            self.powers = ()
        else:
            self.horizon = TURNS_DEPTHS * self.letter
            # With turns no name before the horizon is deeper than TURNS_DEPTHS, 40.
            self.powers = tuple([turns ** k for k in range(41)])

    def tuples_until(self, k, most):
        """Return how many tuples of k items have a sum of at most most."""
        if most < 0:
            return 0
        if self.turns is None:
            return comb(most + k, k)
        if most >= k * (self.turns - 1):
            return self.powers[k]
        total = 0
        sign = 1
        for s in range(min(k, most // self.turns) + 1):
            total += sign * comb(k, s) * comb(most - s * self.turns + k, k)
            sign = -sign
        return total

    def tuples_of(self, k, worth):
        """Return how many tuples of k items have just the sum worth."""
        return self.tuples_until(k, worth) - self.tuples_until(k, worth - 1)

    def sum_occurs(self, k, worth):
        """Tell whether some tuple of k items has the sum worth, which is 0 or more."""
        if k == 0:
            return worth == 0
        return self.turns is None or worth <= k * (self.turns - 1)

    def known_until(self, t, enough):
        """Return how many hands are known at t or earlier.

        If there are at least enough, the answer is some number from enough on:
        the exact one may be huge.
        """
        total = 0
        for root in self.roots:
            for k in range((t - root) // self.letter + 1):
                total += self.tuples_until(k, (t - root - k * self.letter) // self.gap)
                if total >= enough:
                    return total
        return total

    def groups_at(self, t):
        """Return (k, r, worth) for the hands known just at t, in the order of their names.

        A group is made up of the names of depth k and root r whose items have the sum worth.
        """
        groups = []
        for k in range(t // self.letter + 1):
            for r, root in enumerate(self.roots):
                left = t - root - k * self.letter
                if left >= 0 and left % self.gap == 0:
                    groups.append((k, r, left // self.gap))
        return groups

    def time_behind(self, t):
        """Return the least time behind t at which a hand becomes known, or None behind the horizon."""
        times = []
        for root in self.roots:
            for k in range((self.horizon - root) // self.letter + 1):
                first = root + k * self.letter
                worth = max(0, (t - first) // self.gap + 1)
                if self.sum_occurs(k, worth):
                    times.append(first + worth * self.gap)
        earliest = min(times, default=None)
        if earliest is None or earliest > self.horizon:
            return None
        return earliest

    def time_of_many(self, n):
        """Return the least time at which at least n hands are known."""
        if self.known_until(self.horizon, n) < n:
            raise LimitExceeded("time")
        return least_where(0, self.horizon, lambda t: self.known_until(t, n) >= n)


def reach(machine, t, *, turns=None, roots=(0,)):
    """Return how many hands are known at the time t or earlier."""
    tree = Tree(machine, turns, roots)
    check_time(t, tree.horizon)
    return within_limit(tree.known_until(t, MOST_COUNT + 1))


def layer(machine, t, *, turns=None, roots=(0,)):
    """Return how many hands are known just at the time t."""
    tree = Tree(machine, turns, roots)
    check_time(t, tree.horizon)
    many = 0
    for k, _, worth in tree.groups_at(t):
        many += tree.tuples_of(k, worth)
    return within_limit(many)


def next_time(machine, t, *, turns=None, roots=(0,)):
    """Return the least time behind t at which a hand becomes known, or None behind the horizon."""
    tree = Tree(machine, turns, roots)
    check_time(t, tree.horizon)
    return tree.time_behind(t)


def least_time(machine, n, *, turns=None, roots=(0,)):
    """Return the least time at which at least n hands are known."""
    tree = Tree(machine, turns, roots)
    check_count(n, 1, MOST_HANDS)
    return tree.time_of_many(n)


def fewest_turns(machine, n):
    """Return the least turns with which n hands are known as early as without turns."""
    time = least_time(machine, n)
    if time > TURNS_DEPTHS * machine.letter:
        raise LimitExceeded("time")
    # A hand that sends more letters than this has sent the last ones too late to count.
    plenty = time // machine.gap + 1
    return least_where(1, plenty, lambda turns: Tree(machine, turns, (0,)).known_until(time, n) >= n)
