"""Several letters that are told to all hands, and the time that they keep a hand busy."""

from tellontree.checks import MOST_LETTERS, MOST_SHARING, check_count, check_sources
from tellontree.counts import least_time
from tellontree.faults import end_of, form_fault, hand_fault, near_fault, refuse, telling_fault
from tellontree.plans import best_plan

MOST_SENDINGS = 2000


def letter_fault(rows, k):
    """Return the fault of the first row whose letter is none of the k letters."""
    for at, row in enumerate(rows):
        if not 0 <= row[0] < k:
            return ("letter", at)
    return None


def sending_fault(n, k, thing):
    """Return the fault of a thing that is no list of rows of k letters for n hands, each looked at alone."""
    return (
        form_fault(thing, MOST_SENDINGS, 4)
        or letter_fault(thing, k)
        or hand_fault(n, [row[1:3] for row in thing], 0, 0))


def learning_fault(machine, n, sources, rows):
    """Return the first fault by which some hand is told a letter twice, never, or by who lacks it."""
    told = [((letter, sender), (letter, receiver), start) for letter, sender, receiver, start in rows]
    wanted = [(letter, hand) for letter in range(len(sources)) for hand in range(n)]
    return telling_fault(told, list(enumerate(sources)), wanted, machine.letter)


def crowding_fault(machine, rows):
    """Return the first fault by which a hand has too much to do at a time."""
    sent = [(sender, start) for _, sender, _, start in rows]
    received = [(receiver, start) for _, _, receiver, start in rows]
    # A hand is busy with each sending and each receiving for o from these times on.
    busy = [
        [(sender, start), (receiver, start + machine.letter - machine.o)] for _, sender, receiver, start in rows]
    return (
        near_fault("gap", [[mark] for mark in sent], machine.gap)
        or near_fault("close", [[mark] for mark in received], machine.gap)
        or near_fault("busy", busy, machine.o))


def letters_fault(machine, n, sources, thing):
    """Return the first fault of the thing as a letters plan, or None."""
    check_count(n, 2, MOST_SHARING)
    check_sources(sources, n)
    return (
        sending_fault(n, len(sources), thing)
        or learning_fault(machine, n, sources, thing)
        or crowding_fault(machine, thing))


def letters_ends(machine, n, sources, rows):
    """Return the list of the times at which all hands know each letter."""
    refuse(letters_fault(machine, n, sources, rows))
    return [end_of([row for row in rows if row[0] == letter], machine.letter) for letter in range(len(sources))]


def known_letters(machine, n, sources, rows, hand, time):
    """Return the letters that the hand knows at the time, in ascending order."""
    refuse(letters_fault(machine, n, sources, rows))
    own = [letter for letter, source in enumerate(sources) if source == hand]
    told = [row[0] for row in rows if row[2] == hand and row[3] + machine.letter <= time]
    return sorted(own + told)


def doing(machine, n, sources, rows, hand, time):
    """Return what the hand is busy with at the time and the index of its row, or None."""
    refuse(letters_fault(machine, n, sources, rows))
    for at, (_, sender, receiver, start) in enumerate(rows):
        if sender == hand and start <= time < start + machine.o:
            return ("sending", at)
        known = start + machine.letter
        if receiver == hand and known - machine.o <= time < known:
            return ("receiving", at)
    return None


def period_of(machine, n, turns):
    """Return by how much a letter may follow the one before it on the same tree."""
    if n == 2:
        return machine.gap
    return max(turns * machine.gap, (turns - 1) * machine.gap + 2 * machine.o)


def best_way(machine, n, k):
    """Return the least time in which trees of any turns tell k letters, and these turns."""
    check_count(n, 2, MOST_SHARING)
    check_count(k, 1, MOST_LETTERS)
    return min([
        (least_time(machine, n, turns=turns) + (k - 1) * period_of(machine, n, turns), turns)
        for turns in range(1, n)])


def bounds(machine, n, k):
    """Return a time that k letters from hand 0 need at least, and one that is enough."""
    high, _ = best_way(machine, n, k)
    return (least_time(machine, n) + (k - 1) * machine.gap, high)


def letters_plan(machine, n, k):
    """Return a letters plan for k letters from hand 0 that ends at the greater one of the bounds."""
    _, turns = best_way(machine, n, k)
    period = period_of(machine, n, turns)
    tree = best_plan(machine, n, turns=turns)
    return [
        (letter, sender, receiver, start + letter * period)
        for letter in range(k) for sender, receiver, start in tree]
