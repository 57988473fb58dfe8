"""Faults of rows, and the end of rows: what plans, gathers and letters plans share.

A fault is None or a tuple of its kind and of the place where it is.
"""

from tellontree.checks import is_integer
from tellontree.errors import InvalidPlan

MOST_ROWS = 400
LATEST_START = 10 ** 15


def refuse(wrong):
    """Raise InvalidPlan if there is a fault."""
    if wrong is not None:
        why, at = wrong
        raise InvalidPlan(why, at)


def end_of(rows, letter):
    """Return the time at which the letter of the last row is received, or 0 without rows."""
    return max([row[-1] + letter for row in rows], default=0)


def is_row(thing, parts):
    """Tell whether the thing is a tuple of so many integers, the last of them a start."""
    if not isinstance(thing, tuple) or len(thing) != parts:
        return False
    for item in thing:
        if not is_integer(item):
            return False
    return 0 <= thing[-1] <= LATEST_START


def form_fault(thing, most, parts):
    """Return the fault of a thing that is no list of at most so many rows of so many parts."""
    if not isinstance(thing, (list, tuple)) or len(thing) > most:
        return ("form", -1)
    for at, row in enumerate(thing):
        if not is_row(row, parts):
            return ("form", at)
    return None


def hand_fault(n, pairs, first_sender, first_receiver):
    """Return the fault of the first pair that is no sender and another receiver.

    The senders are the hands from first_sender on, the receivers those from first_receiver on.
    """
    for at, (sender, receiver) in enumerate(pairs):
        if not first_sender <= sender < n or not first_receiver <= receiver < n or sender == receiver:
            return ("hand", at)
    return None


def again_fault(keys, taken):
    """Return the fault of the first key that is taken or equal to an earlier one."""
    seen = set(taken)
    for at, key in enumerate(keys):
        if key in seen:
            return ("again", at)
        seen.add(key)
    return None


def nobody_fault(wanted, keys):
    """Return the fault of the first wanted key that is none of the keys."""
    found = set(keys)
    for key in wanted:
        if key not in found:
            return ("nobody", key)
    return None


def early_fault(told, roots, letter):
    """Return the fault of the first row that starts before its sender knows."""
    known = {root: 0 for root in roots}
    for _, receiver, start in told:
        known[receiver] = start + letter
    for at, (sender, _, start) in enumerate(told):
        if start < known[sender]:
            return ("early", at)
    return None


def telling_fault(told, roots, wanted, letter):
    """Return the first fault of rows (sender, receiver, start) by which all wanted are told once.

    The roots know at the time 0 and are never told.
    """
    receivers = [receiver for _, receiver, _ in told]
    return (
        again_fault(receivers, roots)
        or nobody_fault(wanted, roots + receivers)
        or early_fault(told, roots, letter))


def is_near(times, hand, time, width):
    """Tell whether a time that is kept for the hand is less than width away from this one."""
    slot = time // width
    for near in (slot - 1, slot, slot + 1):
        other = times.get((hand, near))
        if other is not None and abs(time - other) < width:
            return True
    return False


def near_fault(why, marks, width):
    """Return the fault of the first row that comes too near to an earlier one.

    The marks of a row are pairs of a hand and a time, each with another hand. Two rows are
    too near to each other if marks of theirs with the same hand are less than width apart.
    """
    if width == 0:
        return None
    # A slot is as long as the width, so marks that are not too near never share one.
    times = {}
    for at, row in enumerate(marks):
        for hand, time in row:
            if is_near(times, hand, time, width):
                return (why, at)
            times[(hand, time // width)] = time
    return None
