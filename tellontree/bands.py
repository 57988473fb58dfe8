"""Bands, which tell the least time of n hands by the ratio of D and G, and machines told back from sightings."""

from math import comb, gcd

from tellontree.checks import check_count, check_sightings, is_between
from tellontree.errors import InvalidMachine

FEWEST_BANDED = 2
MOST_BANDED = 20
GREATEST_TOLD = 10 ** 20
# Each number below MOST_BANDED divides it: so each end of a band is an integer in units of 1 / UNIT.
UNIT = 232792560


def groups_of(n):
    """Return (k, j, many): many names of depth k and sum j, of which one can be the n-th at some ratio."""
    groups = [(0, 0, 1)]
    for k in range(1, n):
        for j in range(n - 1):
            many = comb(k + j - 1, j)
            # The names of no greater depth and no greater sum come before these at every ratio.
            if comb(k + j + 1, k) - many < n:
                groups.append((k, j, many))
    return groups


def nth_pair(groups, n, letter, gap, side):
    """Return the pair (k, j) of the n-th name at ratios next to letter / gap.

    They are a little greater than it if side is 1, and a little less if side is -1.
    """
    before = 0
    for k, j, many in sorted(groups, key=lambda group: (group[0] * letter + group[1] * gap, side * group[0])):
        before += many
        if before >= n:
            return (k, j)
    return None


def high_of(groups, n, low, pair):
    """Return the least ratio above low, in units of 1 / UNIT, behind which the pair is another one, or None."""
    k, j = pair
    crossings = [(i - j) * UNIT // (k - m) for m, i, _ in groups if m != k]
    for ratio in sorted(set(crossings)):
        if ratio > low and nth_pair(groups, n, ratio, UNIT, 1) != pair:
            return ratio
    return None


def lowest_terms(ratio):
    """Return the ratio, in units of 1 / UNIT, as two integers without a common divisor; None as None."""
    if ratio is None:
        return None
    common = gcd(ratio, UNIT)
    return (ratio // common, UNIT // common)


def bands(n):
    """Return the bands of the least time of n hands, from the least ratios to the greatest."""
    check_count(n, FEWEST_BANDED, MOST_BANDED)
    groups = groups_of(n)
    told = []
    low = 0
    while low is not None:
        k, j = nth_pair(groups, n, low, UNIT, 1)
        high = high_of(groups, n, low, (k, j))
        told.append((lowest_terms(low), lowest_terms(high), k, j))
        low = high
    return told


def band_of(machine, n):
    """Return the pair (k, j) of the band in which the ratio of the machine lies."""
    check_count(n, FEWEST_BANDED, MOST_BANDED)
    return nth_pair(groups_of(n), n, machine.letter, machine.gap, -1)


def sums_of(rows):
    """Return (k, j, time) for each sighting: a pair (D, G) explains it if k * D + j * G is the time."""
    return [(len(name) - 1, sum(name[1:]), time) for name, time in rows]


def fits(sums, letter, gap):
    """Tell whether the pair makes all the sums right."""
    for k, j, time in sums:
        if k * letter + j * gap != time:
            return False
    return True


def explains(rows, letter, gap):
    """Tell whether each of the names is known at its time if D is letter and G is gap."""
    check_sightings(rows)
    if not is_between(letter, 1, GREATEST_TOLD):
        raise InvalidMachine("letter")
    if not is_between(gap, 1, GREATEST_TOLD):
        raise InvalidMachine("gap")
    return fits(sums_of(rows), letter, gap)


def told_by_two(first, other, sums):
    """Return what tells the pairs that make all the sums right, two of which allow one pair at most."""
    k, j, time = first
    m, i, last = other
    parts = k * i - m * j
    letter = (time * i - last * j) // parts
    gap = (k * last - m * time) // parts
    # What was rounded here does not fit.
    if letter < 1 or gap < 1 or not fits(sums, letter, gap):
        return ("none",)
    return ("one", (letter, gap))


def told_by_line(k, j, time):
    """Return what tells the pairs (D, G) with k * D + j * G == time; k and j have no common divisor."""
    if j == 0:
        return ("line", (time, 1), (0, 1), None) if time > 0 else ("none",)
    most = (time - k) // j
    # Of k gaps in a row just one leads to an integer D.
    for gap in range(most, max(0, most - k), -1):
        if (time - j * gap) % k == 0:
            first = ((time - j * gap) // k, gap)
            count = (gap - 1) // k + 1
            return ("one", first) if count == 1 else ("line", first, (j, -k), count)
    return ("none",)


def told_by_multiples(sums):
    """Return what tells the pairs that make all the sums right, if they are multiples of one sum."""
    k, j, time = sums[0]
    common = gcd(k, j)
    least = k // common
    worth = time // common
    for m, _, other in sums:
        if worth * (m // least) != other:
            return ("none",)
    return told_by_line(least, j // common, worth)


def told_back(rows):
    """Return which pairs (D, G) explain the sightings: none, any, one, or those on a line."""
    check_sightings(rows)
    sums = [parts for parts in sums_of(rows) if parts != (0, 0, 0)]
    if not sums:
        return ("any",)
    k, j, _ = sums[0]
    for m, i, time in sums:
        if m == 0:
            return ("none",)
        if k * i != m * j:
            return told_by_two(sums[0], (m, i, time), sums)
    return told_by_multiples(sums)
