"""Plans: who tells whom, and when."""

from tellontree.checks import MOST_PLANNED, check_count, check_time
from tellontree.errors import InvalidNames, NothingLeft
from tellontree.faults import (
    LATEST_START, MOST_ROWS, end_of, form_fault, hand_fault, near_fault, refuse, telling_fault)
from tellontree.names import first_names, is_name, known_at


def row_fault(n, thing):
    """Return the fault of a thing that is no list of rows of a plan for n hands, each looked at alone."""
    return form_fault(thing, MOST_ROWS, 3) or hand_fault(n, [row[:2] for row in thing], 0, 1)


def fault(machine, n, thing):
    """Return the first fault of the thing as a plan for n hands, or None."""
    check_count(n, 1, MOST_PLANNED)
    return (
        row_fault(n, thing)
        or telling_fault(thing, [0], list(range(n)), machine.letter)
        or near_fault("gap", [[(sender, start)] for sender, _, start in thing], machine.gap))


def by_start(rows):
    """Return the rows in the order of their starts: each behind the row that tells its sender."""
    return sorted(rows, key=lambda row: row[2])


def with_starts(rows, starts):
    """Return the rows with the starts that their receivers have in the list starts."""
    return [(sender, receiver, starts[receiver]) for sender, receiver, _ in rows]


def start_of(machine, name):
    """Return the earliest start of the row that tells the hand with this name."""
    return known_at(machine, name) - machine.letter


def ends(machine, n, plan):
    """Return the time at which the last hand is known."""
    refuse(fault(machine, n, plan))
    return end_of(plan, machine.letter)


def names_of(machine, n, plan):
    """Return the list of the names that the hands have by this plan."""
    refuse(fault(machine, n, plan))
    names = [(0,)] * n
    many = [0] * n
    for sender, receiver, _ in by_start(plan):
        names[receiver] = names[sender] + (many[sender],)
        many[sender] += 1
    return names


def earliest(machine, n, plan):
    """Return the plan of the same shape in which each row starts as early as it can."""
    names = names_of(machine, n, plan)
    return with_starts(plan, [start_of(machine, name) for name in names])


def latest(machine, n, plan, *, until):
    """Return the plan of the same shape in which each row starts as late as it can to end by until."""
    soonest = earliest(machine, n, plan)
    check_time(until, LATEST_START)
    if end_of(soonest, machine.letter) > until:
        raise NothingLeft("time")
    known_by = [until] * n
    started_by = [until] * n
    starts = [0] * n
    for sender, receiver, _ in by_start(plan)[::-1]:
        start = min(known_by[receiver] - machine.letter, started_by[sender])
        known_by[sender] = start
        started_by[sender] = start - machine.gap
        starts[receiver] = start
    return with_starts(plan, starts)


def check_names(names):
    """Raise InvalidNames unless the names are those of the hands of a plan."""
    if not isinstance(names, (list, tuple)) or not 1 <= len(names) <= MOST_PLANNED:
        raise InvalidNames(-1)
    seen = set()
    for at, name in enumerate(names):
        if not is_name(name) or name in seen or (at == 0 and name != (0,)):
            raise InvalidNames(at)
        seen.add(name)
    for at, name in enumerate(names):
        if at > 0 and name[:-1] not in seen:
            raise InvalidNames(at)
        if name[-1] > 0 and name[:-1] + (name[-1] - 1,) not in seen:
            raise InvalidNames(at)


def plan_of(machine, names):
    """Return the earliest plan in which each hand has the name that stands at its number."""
    check_names(names)
    hands = {name: hand for hand, name in enumerate(names)}
    return [(hands[name[:-1]], hand, start_of(machine, name)) for hand, name in enumerate(names) if hand > 0]


def best_plan(machine, n, *, turns=None):
    """Return a plan for n hands that ends as early as any."""
    return plan_of(machine, first_names(machine, n, turns=turns))
