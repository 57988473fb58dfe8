"""Rounds: each hand sends a letter of its own to all the others."""

from tellontree.checks import MOST_SHARING, check_count, is_between
from tellontree.errors import InvalidTime

LONGEST_PERIOD = 10 ** 10


def round_plan(machine, n, *, period=None):
    """Return the rows of the rounds of the period, or of the least period."""
    check_count(n, 2, MOST_SHARING)
    if period is None:
        period = least_period(machine, n)
    elif not is_between(period, 1, LONGEST_PERIOD):
        raise InvalidTime()
    return [(hand, hand, (hand + turn + 1) % n, turn * period) for hand in range(n) for turn in range(n - 1)]


def is_free(machine, n, period):
    """Tell whether in no round of this period a hand sends while it receives."""
    for q in range(1, n - 1):
        if machine.l < q * period < machine.letter:
            return False
    return True


def least_period(machine, n):
    """Return the least period, at least the gap, with which no hand sends while it receives."""
    check_count(n, 2, MOST_SHARING)
    # The least period is the gap, or one whose multiple by some q just reaches the letter time.
    periods = [machine.gap] + [-(-machine.letter // q) for q in range(1, n - 1)]
    return min([period for period in periods if period >= machine.gap and is_free(machine, n, period)])


def everybody(machine, n):
    """Return a time that everybody needs to tell all the others, and one that is enough."""
    period = least_period(machine, n)
    low = max(machine.letter + (n - 2) * machine.gap, 2 * machine.o * (n - 1))
    return (low, machine.letter + (n - 2) * period)
