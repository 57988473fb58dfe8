"""Sums: hand 0 comes to know the sum of the numbers that the hands have."""

from heapq import heappop, heappush

from tellontree.checks import MOST_SHARING, check_count, check_time, is_between
from tellontree.counts import least_where
from tellontree.faults import MOST_ROWS, again_fault, form_fault, hand_fault, near_fault, nobody_fault, refuse
from tellontree.machines import Machine

LATEST_SUM = 10 ** 12
MOST_NUMBERS = 10 ** 15
MOST_ASKED = 10 ** 12


def work_end(own, received, o):
    """Return the least time until which a hand can add its own numbers and the sums received at these times."""
    letters = len(received)
    times = [own - 1 + letters + letters * o]
    for later, time in enumerate(sorted(received, reverse=True)):
        # Behind this receiving there are the later ones, and one unit for its sum and for each later one.
        times.append(time + later * o + later + 1)
    return max(times)


def end_of_work(machine, rows, own, hand):
    """Return the least time until which the work of the hand can be done."""
    received = [start + machine.letter for _, receiver, start in rows if receiver == hand]
    return work_end(own[hand], received, machine.o)


def rows_fault(thing):
    """Return the fault of a thing that is no tuple of a list of rows and of something else."""
    if not isinstance(thing, tuple) or len(thing) != 2:
        return ("form", -1)
    return form_fault(thing[0], MOST_ROWS, 3)


def own_fault(n, own):
    """Return the fault of what is no list of how many numbers each of n hands has."""
    if not isinstance(own, (list, tuple)) or len(own) != n:
        return ("own", -1)
    for hand, many in enumerate(own):
        if not is_between(many, 1 if hand == 0 else 0, MOST_NUMBERS):
            return ("own", hand)
    return None


def idle_fault(rows, own):
    """Return the fault of the least hand with no numbers that has to do with a letter."""
    concerned = {hand for row in rows for hand in row[:2]}
    for hand, many in enumerate(own):
        if many == 0 and hand in concerned:
            return ("idle", hand)
    return None


def busy_fault(machine, rows, own):
    """Return the fault of the least sender whose work cannot be done until the start of its letter."""
    for sender, _, start in sorted(rows):
        if start < end_of_work(machine, rows, own, sender):
            return ("busy", sender)
    return None


def timeless_fault(machine, n, thing):
    """Return the first fault of the thing as a sum plan for whatever time, or None."""
    wrong = rows_fault(thing) or own_fault(n, thing[1])
    if wrong is not None:
        return wrong
    rows, own = thing
    senders = [row[0] for row in rows]
    return (
        hand_fault(n, [row[:2] for row in rows], 1, 0)
        or again_fault(senders, [])
        or idle_fault(rows, own)
        or nobody_fault([hand for hand in range(1, n) if own[hand] > 0], senders)
        or near_fault("gap", [[(receiver, start)] for _, receiver, start in rows], machine.gap)
        or busy_fault(machine, rows, own))


def sum_fault(machine, n, time, thing):
    """Return the first fault of the thing as a sum plan for the time, or None."""
    check_count(n, 1, MOST_SHARING)
    check_time(time, LATEST_SUM)
    wrong = timeless_fault(machine, n, thing)
    if wrong is not None:
        return wrong
    rows, own = thing
    return ("late", 0) if time < end_of_work(machine, rows, own, 0) else None


def sum_ends(machine, n, thing):
    """Return the least time for which the thing is a right sum plan."""
    check_count(n, 1, MOST_SHARING)
    refuse(timeless_fault(machine, n, thing))
    rows, own = thing
    return end_of_work(machine, rows, own, 0)


def slow_tree(machine, n):
    """Return the time and the sender for each of the first n hands but the root in the tree of the slower machine.

    The numbers of that machine may be too great for a Machine.
    """
    letter = machine.letter + 1
    gap = max(machine.g, machine.o + 1)
    waiting = [(letter, 0)]
    told = []
    while len(told) < n - 1:
        known, sender = heappop(waiting)
        told.append((known, sender))
        heappush(waiting, (known + gap, sender))
        heappush(waiting, (known + letter, len(told)))
    return told


def greatest_sum(machine, n, time):
    """Return how many numbers n hands can add until the time."""
    return time + 1 + sum([max(0, time - known - machine.o) for known, _ in slow_tree(machine, n)])


def most_summed(machine, n, time):
    """Return the greatest number of numbers that a right sum plan of n hands for the time has."""
    check_count(n, 1, MOST_SHARING)
    check_time(time, LATEST_SUM)
    return greatest_sum(machine, n, time)


def sum_plan(machine, n, time):
    """Return a right sum plan of n hands for the time with as many numbers as there can be."""
    check_count(n, 1, MOST_SHARING)
    check_time(time, LATEST_SUM)
    rows = []
    own = [time + 1] + [0] * (n - 1)
    # The letters go the way of the slower tree, with time turned round.
    for hand, (known, receiver) in enumerate(slow_tree(machine, n), start=1):
        start = time - known
        if start > machine.o:
            rows.append((hand, receiver, start))
            own[hand] += start + 1
            own[receiver] -= machine.o + 1
    return (rows, own)


def least_sum_time(machine, n, count):
    """Return the least time for which n hands can add count numbers."""
    check_count(n, 1, MOST_SHARING)
    check_count(count, 1, MOST_ASKED)
    # One hand alone is ready with them at count - 1.
    return least_where(0, count - 1, lambda time: greatest_sum(machine, n, time) >= count)


def least_summers(machine, time, count):
    """Return the least number of hands that can add count numbers until the time, or None."""
    check_time(time, LATEST_SUM)
    check_count(count, 1, MOST_ASKED)
    for n in range(1, MOST_SHARING + 1):
        if greatest_sum(machine, n, time) >= count:
            return n
    return None


def slower(machine):
    """Return the machine whose growing tree, turned round, is the best way to add."""
    return Machine.of(machine.letter + 1, max(machine.g, machine.o + 1))
