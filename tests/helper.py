"""What the tests share: wrong values, a check of errors, plain searches, and the tree by its definition."""

import random
import unittest
from itertools import permutations

from tellontree.desk import Desk
from tellontree.errors import InvalidCount, TellError
from tellontree.machines import Machine
from tellontree.names import names_until

ATTRIBUTES = {
    "InvalidMachine": ["part"],
    "InvalidCount": [],
    "InvalidTime": [],
    "InvalidTurns": [],
    "InvalidRoots": ["at"],
    "InvalidName": ["at"],
    "InvalidNames": ["at"],
    "InvalidPlan": ["why", "at"],
    "InvalidRows": ["at"],
    "InvalidText": ["line"],
    "LimitExceeded": ["limit"],
    "NothingLeft": ["word"],
}


def nested(depth):
    """Return a list that is nested so deep."""
    thing = []
    for _ in range(depth - 1):
        thing = [thing]
    return thing


NO_INTEGERS = [
    True, False, 1.0, 0.0, float("nan"), float("inf"), 1j, "1", "", b"1", bytearray(b"1"), [], [1], (), (1,),
    {}, {1: 1}, {1}, frozenset([1]), range(2), slice(1), len, int, object(), Ellipsis, NotImplemented,
    nested(20), Machine.of(1, 1), InvalidCount(), Machine, Desk(Machine.of(1, 1), 1), Desk,
]

# Values that are no list of rows, of names or of sources.
NO_LISTS = [
    None, True, 0, 5, 1.5, "", "rows", b"ab", bytearray(b"ab"), {}, {(0, 1, 0): 1}, set(), {(0, 1, 0)}, frozenset(),
    range(3), slice(1), iter([]), object(), len, Machine.of(1, 1), InvalidCount(),
    Desk.holding(Machine.of(1, 1), 2, [(0, 1, 0)]), Desk(Machine.of(1, 1), 2),
]

# Small machines as (letter, gap), with the times up to which they are walked.
SMALL = [
    (1, 1, 8), (1, 2, 11), (1, 5, 17), (2, 1, 10), (2, 3, 16), (3, 2, 15), (3, 3, 22), (4, 1, 14), (5, 2, 19),
    (7, 1, 19), (10, 3, 41),
]

TURNS = [None, 1, 2, 3, 5, 10 ** 12]

ROOTS = [(0,), [0], (3,), (0, 0), [0, 1], (2, 2, 5), [0, 0, 1, 4, 4, 9]]

# With the letter time 10 ** 9 and the gap 1, just 10 ** 40 hands are known at FULL_TIME.
FULL_ROOTS = [0, 1055872113, 2182341603, 3189957291, 4199302009]
FULL_TIME = 5260516557


class TellCase(unittest.TestCase):
    """A test case that can ask for an error with its attributes."""

    def assert_raises(self, error, function, *args, **named):
        """Check that the call raises an error like this one."""
        try:
            result = function(*args, **named)
        except TellError as caught:
            self.assertIs(type(caught), type(error), (function, args, named, caught))
            for attribute in ATTRIBUTES[type(error).__name__]:
                wanted = getattr(error, attribute)
                got = getattr(caught, attribute)
                self.assertEqual((type(got), got), (type(wanted), wanted), (function, args, named))
            return
        self.fail(f"{function} {args} {named} returned {result}")

    def assert_many_of_each(self, kinds, faults):
        """Check that faults of just these kinds, or None, have come up, and each of them often."""
        told = [fault if fault is None else fault[0] for fault in faults]
        self.assertEqual(set(told), {None, *kinds})
        self.assertGreater(min(told.count(kind) for kind in [None, *kinds]), 50)


def wrong_rows(row):
    """Return things that are no rows although this one is: it begins with hands and ends with a start."""
    start = row[-1]
    things = [list(row), row[:-1], row[1:], row + (start,), (), (start,), None, start, "row", {0: 0}, frozenset(row)]
    for at in range(len(row)):
        for wrong in (True, None, float(row[at]), str(row[at]), (row[at],), [row[at]], Machine.of(1, 1)):
            things.append(row[:at] + (wrong,) + row[at + 1:])
    return things + [row[:-1] + (late,) for late in (-1, 10 ** 15 + 1, -10 ** 30, 10 ** 30)]


def wrong_forms(row, most):
    """Return the faults and the things of wrong form, for lists of at most so many rows like this one."""
    things = [(-1, thing) for thing in NO_LISTS]
    things += [(-1, [row] * (most + 1)), (-1, (row,) * (most + 1)), (-1, [None] * (most + 1)), (0, [None] * most)]
    for wrong in wrong_rows(row):
        things += [(1, [row, wrong]), (0, (wrong, row)), (2, [row, row, wrong, None])]
    return [(("form", at), thing) for at, thing in things]


def wrong_sightings():
    """Return things that are no sightings."""
    things = [thing for thing in NO_LISTS if not isinstance(thing, tuple)]
    things += [(), (3,), ((0,),), ((0, 1), 3, 3), [(0, 1), 3], (3, (0, 1)), "01", [[0, 1], 3], ((0, 1), (3,))]
    names = [thing for thing in NO_LISTS + NO_INTEGERS if thing != (0,)]
    names += [(), (1,), (-1,), (True,), (False,), (0.0,), ("0",), (0, -1), (0, True), (0, False), (0, 1.0), (0, None)]
    names += [(0, 10 ** 15 + 1), (0, 0, 10 ** 40), (None, 0), ((0,),), [0], [0, 1], (0,) * 201, "0.1"]
    times = NO_INTEGERS + [None, -1, -10 ** 20, 10 ** 20 + 1, 10 ** 40]
    return things + [(name, 3) for name in names] + [((0, 1), time) for time in times]


def pairs_of(kinds):
    """Return the kinds alone and in pairs, each pair both ways round, as lists of one or two."""
    return [[kind] for kind in kinds] + [list(pair) for pair in permutations(kinds, 2)]


def some_rows(seed, many):
    """Yield a letter time, a gap, a number of hands and rows that are nearly a right plan, or one."""
    source = random.Random(seed)
    for _ in range(many):
        n = source.randint(1, 5)
        hands = list(range(1, n))
        source.shuffle(hands)
        rows = [(source.choice([0] + hands[:at]), hand, source.randint(0, 12)) for at, hand in enumerate(hands)]
        if source.random() < 0.4:
            rows.append((source.randint(-1, n), source.randint(-1, n), source.randint(0, 12)))
        if rows and source.random() < 0.1:
            rows.pop()
        source.shuffle(rows)
        yield source.randint(1, 4), source.randint(1, 4), n, rows


def least_index(rows, wrong):
    """Return the least index for which wrong holds, or None."""
    return next((at for at in range(len(rows)) if wrong(at)), None)


def first_found(faults):
    """Return the first of the faults (why, at) whose place is not None, or None."""
    return next((found for found in faults if found[1] is not None), None)


def listed_until(*args, **named):
    """Return the list of what names_until yields."""
    return list(names_until(*args, **named))


def horizon(letter, turns):
    """Return the horizon, as point 13 says it."""
    return 120 * letter if turns is None else 40 * letter


def walk(letter, gap, turns, roots, until):
    """Return the time of each name known at until or earlier, by points 9 and 10."""
    times = {}
    waiting = [((r,), root) for r, root in enumerate(roots)]
    while waiting:
        name, time = waiting.pop()
        if time > until:
            continue
        times[name] = time
        number = 0
        start = time
        while start + letter <= until and (turns is None or number < turns):
            waiting.append((name + (number,), start + letter))
            number += 1
            start += gap
    return times


def in_order(times):
    """Return the names in the order of point 12."""
    return sorted(times, key=lambda name: (times[name], len(name), name))


def small_trees():
    """Yield machine, turns, roots, the end of the walk and the times of the names, for small machines."""
    for letter, gap, until in SMALL:
        for turns in TURNS:
            for roots in ROOTS:
                times = walk(letter, gap, turns, roots, until)
                yield Machine.of(letter, gap), turns, roots, until, times


def count_table(letter, gap, turns, until):
    """Return A(0) to A(until) by the recurrence of point 17."""
    table = []

    def before(t):
        return table[t] if t >= 0 else 0

    for t in range(until + 1):
        if t < gap:
            # Nobody has begun a second sending: the tree is still a chain.
            table.append(t // letter + 1)
        else:
            late = 0 if turns is None else before(t - letter - turns * gap)
            table.append(before(t - gap) + before(t - letter) - late)
    return table


def tuple_table(turns, most_items, most_sum):
    """Return how many tuples of k items have the sum j, as table[k][j], item by item."""
    table = [[1] + [0] * most_sum]
    for _ in range(most_items):
        last = table[-1]
        row = []
        for j in range(most_sum + 1):
            least = 0 if turns is None else max(0, j - turns + 1)
            row.append(sum(last[least:j + 1]))
        table.append(row)
    return table


def counted_place(letter, gap, turns, roots, name):
    """Return the place of a name by points 10 and 12, counting tuples item by item."""
    depth = len(name) - 1
    time = roots[name[0]] + depth * letter + sum(name[1:]) * gap
    table = tuple_table(turns, time // letter, time // gap)
    place = 0
    for r, root in enumerate(roots):
        for k in range((time - root) // letter + 1):
            for j in range((time - root - k * letter) // gap + 1):
                known = root + k * letter + j * gap
                if (known, k, r) < (time, depth, name[0]):
                    place += table[k][j]
    rest = sum(name[1:])
    for at, item in enumerate(name[1:]):
        for less in range(item):
            place += table[depth - at - 1][rest - less]
        rest -= item
    return place
