"""Checks of arguments that several modules make."""

from tellontree.errors import InvalidCount, InvalidName, InvalidRoots, InvalidRows, InvalidTime, InvalidTurns

MOST_TURNS = 10 ** 12
MOST_ROOTS = 6
LATEST_ROOT = 10 ** 12
LONGEST_NAME = 200
GREATEST_ITEM = 10 ** 15
MOST_HANDS = 10 ** 30
MOST_PLANNED = 100
MOST_SHARING = 40
MOST_LETTERS = 40
MOST_SIGHTINGS = 60
LATEST_SIGHTING = 10 ** 20


def is_integer(thing):
    """Tell whether the thing is an int that is not a bool."""
    return isinstance(thing, int) and not isinstance(thing, bool)


def is_between(thing, low, high):
    """Tell whether the thing is an integer from low to high."""
    return is_integer(thing) and low <= thing <= high


def check_turns(turns):
    """Raise InvalidTurns unless turns is None or an integer in its range."""
    if turns is not None and not is_between(turns, 1, MOST_TURNS):
        raise InvalidTurns()


def check_roots(roots):
    """Raise InvalidRoots unless roots is a list of ascending times."""
    if not isinstance(roots, (list, tuple)) or not 1 <= len(roots) <= MOST_ROOTS:
        raise InvalidRoots(-1)
    before = 0
    for at, root in enumerate(roots):
        if not is_between(root, before, LATEST_ROOT):
            raise InvalidRoots(at)
        before = root


def check_count(count, low, high):
    """Raise InvalidCount unless count is an integer from low to high."""
    if not is_between(count, low, high):
        raise InvalidCount()


def check_time(time, latest):
    """Raise InvalidTime unless time is an integer from 0 to latest."""
    if not is_between(time, 0, latest):
        raise InvalidTime()


def wrong_in_name(thing, turns, roots):
    """Return the index of the first wrong item of the thing as a name.

    It is -1 if the thing is no tuple of a right length, and None if the thing is a name.
    """
    if not isinstance(thing, tuple) or not 1 <= len(thing) <= LONGEST_NAME:
        return -1
    greatest = GREATEST_ITEM if turns is None else turns - 1
    for at, item in enumerate(thing):
        if not is_between(item, 0, len(roots) - 1 if at == 0 else greatest):
            return at
    return None


def check_name(thing, turns, roots):
    """Raise InvalidName unless the thing is a name for these turns and roots."""
    at = wrong_in_name(thing, turns, roots)
    if at is not None:
        raise InvalidName(at)


def is_sighting(thing):
    """Tell whether the thing is a tuple of a name and of a time at which it was seen."""
    if not isinstance(thing, tuple) or len(thing) != 2:
        return False
    name, time = thing
    return wrong_in_name(name, None, (0,)) is None and is_between(time, 0, LATEST_SIGHTING)


def check_sightings(rows):
    """Raise InvalidRows unless the rows are a list of sightings."""
    if not isinstance(rows, (list, tuple)) or len(rows) > MOST_SIGHTINGS:
        raise InvalidRows(-1)
    for at, row in enumerate(rows):
        if not is_sighting(row):
            raise InvalidRows(at)


def check_sources(sources, n):
    """Raise InvalidRows unless the sources are a list of hands, one for each letter."""
    if not isinstance(sources, (list, tuple)) or not 1 <= len(sources) <= MOST_LETTERS:
        raise InvalidRows(-1)
    for at, source in enumerate(sources):
        if not is_between(source, 0, n - 1):
            raise InvalidRows(at)
