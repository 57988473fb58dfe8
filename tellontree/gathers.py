"""Gathers: hand 0 comes to know the words of all hands."""

from tellontree.checks import MOST_PLANNED, check_count
from tellontree.faults import (
    MOST_ROWS, again_fault, end_of, form_fault, hand_fault, near_fault, nobody_fault, refuse)
from tellontree.plans import best_plan, fault


def hasty_fault(rows, letter):
    """Return the fault of the first row that starts before its sender has received all its letters."""
    received = {}
    for _, receiver, start in rows:
        received[receiver] = max(received.get(receiver, 0), start + letter)
    for at, (sender, _, start) in enumerate(rows):
        if start < received.get(sender, 0):
            return ("early", at)
    return None


def fault_of_gather(machine, n, rows):
    """Return the first fault of rows that have the form of a gather, or None."""
    senders = [row[0] for row in rows]
    return (
        hand_fault(n, [row[:2] for row in rows], 1, 0)
        or again_fault(senders, [])
        or nobody_fault(list(range(1, n)), senders)
        or hasty_fault(rows, machine.letter)
        or near_fault("gap", [[(receiver, start)] for _, receiver, start in rows], machine.gap))


def gather_fault(machine, n, thing):
    """Return the first fault of the thing as a gather of n hands, or None."""
    check_count(n, 1, MOST_PLANNED)
    return form_fault(thing, MOST_ROWS, 3) or fault_of_gather(machine, n, thing)


def gather_ends(machine, n, rows):
    """Return the time at which hand 0 knows all words."""
    refuse(gather_fault(machine, n, rows))
    return end_of(rows, machine.letter)


def heard(machine, n, rows, hand, time):
    """Return the hands whose words the hand knows at the time, in ascending order."""
    refuse(gather_fault(machine, n, rows))
    known = [hand]
    waiting = [sender for sender, receiver, start in rows if receiver == hand and start + machine.letter <= time]
    while waiting:
        teller = waiting.pop()
        known.append(teller)
        # A hand sends only when all its letters are there, so it tells what they told.
        waiting.extend([sender for sender, receiver, _ in rows if receiver == teller])
    return sorted(known)


def turned(machine, rows):
    """Return the rows with time and letters turned round, so that the last one starts at 0."""
    last = end_of(rows, machine.letter) - machine.letter
    return [(receiver, sender, last - start) for sender, receiver, start in rows]


def turned_plan(machine, n, plan):
    """Return the gather that the plan becomes if it is turned round."""
    refuse(fault(machine, n, plan))
    return turned(machine, plan)


def turned_gather(machine, n, rows):
    """Return the plan that the gather becomes if it is turned round."""
    refuse(gather_fault(machine, n, rows))
    return turned(machine, rows)


def best_gather(machine, n):
    """Return a gather of n hands that ends as early as any."""
    return turned_plan(machine, n, best_plan(machine, n))
