"""Names of the hands of the growing tree, and their order."""

from heapq import heappop, heappush

from tellontree.checks import MOST_HANDS, check_count, check_name, check_roots, check_time, check_turns, wrong_in_name
from tellontree.counts import MOST_COUNT, Tree, least_where, within_limit
from tellontree.errors import LimitExceeded

MOST_FIRST = 100
MOST_UNTIL = 200


def time_of(tree, name):
    """Return the time at which the hand with this name knows."""
    return tree.roots[name[0]] + (len(name) - 1) * tree.letter + sum(name[1:]) * tree.gap


def tuples_below(tree, behind, rest, item):
    """Return how many tuples of a first item less than this one and behind more have the sum rest.

    Turns limit only the items behind the first one.
    """
    return tree.tuples_until(behind, rest) - tree.tuples_until(behind, rest - item)


def place_in_group(tree, items):
    """Return how many tuples of as many items and the same sum come before these items."""
    place = 0
    rest = sum(items)
    for at, item in enumerate(items):
        place += tuples_below(tree, len(items) - at - 1, rest, item)
        rest -= item
    return place


def item_at(tree, behind, rest, place):
    """Return the first item of the tuple with this place among those with the sum rest."""
    # First items below turns lead to more than place tuples: so none from turns on is found.
    return least_where(0, rest, lambda item: tuples_below(tree, behind, rest, item + 1) > place)


def items_at(tree, k, worth, place):
    """Return the tuple with this place among those of k items with the sum worth."""
    items = []
    rest = worth
    for behind in range(k - 1, -1, -1):
        item = item_at(tree, behind, rest, place)
        place -= tuples_below(tree, behind, rest, item)
        rest -= item
        items.append(item)
    return tuple(items)


def name_in_layer(tree, t, place):
    """Return the name with this place among those known just at t; there must be one."""
    for k, r, worth in tree.groups_at(t):
        many = tree.tuples_of(k, worth)
        if place < many:
            return (r,) + items_at(tree, k, worth, place)
        place -= many
    return None


def place_in_layer(tree, t, name):
    """Return how many names known just at t, as this one is, come before it."""
    place = place_in_group(tree, name[1:])
    for k, r, worth in tree.groups_at(t):
        if (k, r) < (len(name) - 1, name[0]):
            place += tree.tuples_of(k, worth)
    return place


def names_in_order(tree, most, until):
    """Return the first names in their order: at most most, and none known behind until."""
    # A name waits in the queue as soon as its sender and the name with a last item
    # lesser by one are out of it: they come before it, so none is missed.
    queue = [(root, 0, (r,)) for r, root in enumerate(tree.roots)]
    names = []
    while len(names) < most and queue[0][0] <= until:
        time, k, name = heappop(queue)
        names.append(name)
        heappush(queue, (time + tree.letter, k + 1, name + (0,)))
        if k > 0 and tree.sum_occurs(1, name[-1] + 1):
            heappush(queue, (time + tree.gap, k, name[:-1] + (name[-1] + 1,)))
    return names


def is_name(thing, *, turns=None, roots=(0,)):
    """Tell whether the thing is a name for these turns and roots."""
    check_turns(turns)
    check_roots(roots)
    return wrong_in_name(thing, turns, roots) is None


def known_at(machine, name, *, turns=None, roots=(0,)):
    """Return the time at which the hand with this name knows."""
    tree = Tree(machine, turns, roots)
    check_name(name, turns, roots)
    return time_of(tree, name)


def name_at(machine, number, *, turns=None, roots=(0,)):
    """Return the name whose place is number."""
    tree = Tree(machine, turns, roots)
    check_count(number, 0, MOST_HANDS - 1)
    time = tree.time_of_many(number + 1)
    return name_in_layer(tree, time, number - tree.known_until(time - 1, number + 1))


def place_of(machine, name, *, turns=None, roots=(0,)):
    """Return how many names of the growing tree come before this one."""
    tree = Tree(machine, turns, roots)
    check_name(name, turns, roots)
    time = time_of(tree, name)
    if time > tree.horizon:
        raise LimitExceeded("time")
    return within_limit(tree.known_until(time - 1, MOST_COUNT + 1) + place_in_layer(tree, time, name))


def first_names(machine, n, *, turns=None, roots=(0,)):
    """Return the list of the first n names in their order."""
    tree = Tree(machine, turns, roots)
    check_count(n, 1, MOST_FIRST)
    names = names_in_order(tree, n, tree.horizon)
    if len(names) < n:
        raise LimitExceeded("time")
    return names


def names_until(machine, t, *, turns=None, roots=(0,)):
    """Yield the names known at the time t or earlier in their order."""
    tree = Tree(machine, turns, roots)
    check_time(t, tree.horizon)
    names = names_in_order(tree, MOST_UNTIL + 1, t)
    if len(names) > MOST_UNTIL:
        raise LimitExceeded("names")
    for name in names:
        yield name
