"""Bands and machines that are told back: points 65 to 69."""

import random
import unittest
from math import gcd

from tellontree.bands import band_of, bands, explains, told_back
from tellontree.counts import least_time
from tellontree.errors import InvalidCount, InvalidMachine, InvalidRows
from tellontree.machines import Machine
from tellontree.names import first_names, known_at
from tests.helper import NO_INTEGERS, NO_LISTS, TellCase, in_order, walk, wrong_sightings

BILLION = 10 ** 9
LATEST = 10 ** 20
ALL_N = range(2, 21)

# The bands that pair_by_bands has asked for.
BANDS = {}
NO_COUNTS = NO_INTEGERS + [None, 0, 1, -2, 21, 40, 10 ** 30]


def is_less(one, other):
    """Tell whether the ratio one is less than the other, which may be None: then it is."""
    return other is None or one[0] * other[1] < other[0] * one[1]


def inside(low, high):
    """Return ratios that lie in a band, some of them next to its ends, with both numbers up to 10 ** 9."""
    top, under = (low[0] + 1, low[1]) if high is None else (low[0] + high[0], low[1] + high[1])
    ratios = [(top, under), (low[0] * 10 ** 7 + 1, low[1] * 10 ** 7)]
    if high is None:
        return ratios + [(low[0] * 5 + 3, 2), (BILLION, 1)]
    return ratios + [(high[0] * 10 ** 7 - 1, high[1] * 10 ** 7), (top + high[0], under + high[1])]


def pair_by_bands(n, letter, gap):
    """Return the pair of the first band whose high is not less than the ratio."""
    if n not in BANDS:
        BANDS[n] = bands(n)
    return next((k, j) for _, high, k, j in BANDS[n] if high is None or not is_less(high, (letter, gap)))


class Bands(TellCase):

    def test_few_hands(self):
        self.assertEqual(bands(2), [((0, 1), None, 1, 0)])
        self.assertEqual(bands(3), [((0, 1), (1, 1), 2, 0), ((1, 1), None, 1, 1)])

    def test_kinds_of_values(self):
        for n in ALL_N:
            told = bands(n)
            self.assertIs(type(told), list)
            for band in told:
                self.assertEqual((type(band), len(band)), (tuple, 4))
                low, high, k, j = band
                for end in (low, high) if high is not None else (low,):
                    self.assertEqual((type(end), len(end), type(end[0]), type(end[1])), (tuple, 2, int, int))
                    self.assertEqual(gcd(*end), 1)
                self.assertEqual((type(k), type(j)), (int, int))

    def test_first_and_last(self):
        for n in ALL_N:
            told = bands(n)
            self.assertEqual(told[0][0], (0, 1))
            self.assertIsNone(told[-1][1])
            self.assertEqual(told[0][2:], (n - 1, 0))
            self.assertEqual(told[-1][2:], (1, n - 2))

    def test_neighbours(self):
        for n in ALL_N:
            told = bands(n)
            for (low, high, k, j), (start, _, m, i) in zip(told, told[1:]):
                self.assertTrue(is_less(low, high))
                self.assertEqual(high, start)
                self.assertNotEqual((k, j), (m, i))
                self.assertEqual(k * high[0] + j * high[1], m * high[0] + i * high[1])
                self.assertEqual(high[0] * (k - m), high[1] * (i - j))

    def test_pairs_give_the_least_time_in_their_bands(self):
        for n in ALL_N:
            for low, high, k, j in bands(n):
                ends = [end for end in (low, high) if end is not None and end != (0, 1)]
                for letter, gap in ends + inside(low, high):
                    self.assertEqual(least_time(Machine.of(letter, gap), n), k * letter + j * gap, (n, letter, gap))

    def test_pairs_are_wrong_behind_their_bands(self):
        for n in ALL_N:
            told = bands(n)
            for (_, _, k, j), (low, high, m, i) in zip(told, told[1:]):
                for letter, gap in inside(low, high)[:2]:
                    self.assertNotEqual(least_time(Machine.of(letter, gap), n), k * letter + j * gap)
                for letter, gap in inside(*told[told.index((low, high, m, i)) - 1][:2]):
                    self.assertNotEqual(least_time(Machine.of(letter, gap), n), m * letter + i * gap)

    def test_all_small_ratios(self):
        for n in ALL_N:
            for letter in range(1, 41):
                for gap in range(1, 21, 1 + letter % 3):
                    k, j = pair_by_bands(n, letter, gap)
                    self.assertEqual(least_time(Machine.of(letter, gap), n), k * letter + j * gap, (n, letter, gap))

    def test_against_a_walk_of_the_tree(self):
        for letter, gap in [(1, 1), (1, 2), (2, 1), (3, 2), (2, 3), (5, 1), (1, 5), (7, 3), (3, 7), (19, 1), (1, 19)]:
            times = walk(letter, gap, None, (0,), least_time(Machine.of(letter, gap), 20))
            ordered = in_order(times)
            for n in ALL_N:
                k, j = pair_by_bands(n, letter, gap)
                self.assertEqual(times[ordered[n - 1]], k * letter + j * gap)
                sums = [(len(name) - 1, sum(name)) for name in ordered if times[name] == times[ordered[n - 1]]]
                self.assertIn((k, j), sums)

    def test_lists_are_new(self):
        told = bands(7)
        told.clear()
        self.assertEqual(bands(n=7)[0], ((0, 1), (1, 5), 6, 0))

    def test_wrong_counts(self):
        for wrong in NO_COUNTS:
            self.assert_raises(InvalidCount(), bands, wrong)
            self.assert_raises(InvalidCount(), band_of, Machine(1, 2, 2), wrong)


class BandOf(TellCase):

    def check_ratio(self, n, letter, gap):
        """Check the band of a machine with this letter time and gap, both up to 10 ** 9."""
        machine = Machine.of(letter, gap)
        pair = band_of(machine, n)
        self.assertEqual(pair, pair_by_bands(n, letter, gap), (n, letter, gap))
        self.assertEqual(least_time(machine, n), pair[0] * letter + pair[1] * gap)

    def test_small_ratios(self):
        for n in ALL_N:
            for letter in range(1, 25):
                for gap in range(1, 25, 3):
                    self.check_ratio(n, letter, gap)

    def test_at_ends_and_next_to_them(self):
        for n in ALL_N:
            for _, high, _, _ in bands(n)[:-1]:
                most = BILLION // max(high) - 1
                for factor in (1, 2, 3, 10, 997, most):
                    letter, gap = high[0] * factor, high[1] * factor
                    self.check_ratio(n, letter, gap)
                    for more in (-1, 1):
                        if letter + more > 0:
                            self.check_ratio(n, letter + more, gap)
                        if gap + more > 0:
                            self.check_ratio(n, letter, gap + more)

    def test_a_common_end_belongs_to_the_lesser_ratios(self):
        for n in ALL_N:
            told = bands(n)
            for (_, high, k, j), (_, _, m, i) in zip(told, told[1:]):
                for factor in (1, 7, 10 ** 6):
                    letter, gap = high[0] * factor, high[1] * factor
                    self.assertEqual(band_of(Machine.of(letter, gap), n), (k, j))
                self.assertEqual(band_of(Machine.of(letter + 1, gap), n), (m, i))

    def test_great_machines(self):
        for machine in [Machine(BILLION, BILLION, 1), Machine(BILLION, BILLION, BILLION), Machine(BILLION, 0, 1),
                        Machine(0, 1, BILLION), Machine(0, BILLION, 1), Machine(10 ** 8 + 7, 5, 997),
                        Machine(1, BILLION, 62500000), Machine(BILLION, BILLION - 1, 1)]:
            for n in ALL_N:
                k, j = band_of(machine, n)
                self.assertEqual((k, j), pair_by_bands(n, machine.letter, machine.gap))
                self.assertEqual(k * machine.letter + j * machine.gap, least_time(machine, n))

    def test_letter_and_gap_count_and_nothing_else(self):
        for n in ALL_N:
            self.assertEqual(band_of(Machine(1, 1, 2), n), band_of(Machine.of(3, 2), n))
            self.assertEqual(band_of(Machine(5, 3, 1), n), band_of(Machine.of(13, 5), n))

    def test_kind(self):
        pair = band_of(n=4, machine=Machine(0, 2, 2))
        self.assertEqual((type(pair), type(pair[0]), type(pair[1])), (tuple, int, int))


def plain_pairs(rows, most):
    """Return the pairs up to most that explain the sightings, by the words of point 68."""
    return [
        (letter, gap) for letter in range(1, most + 1) for gap in range(1, most + 1)
        if all((len(name) - 1) * letter + sum(name) * gap == time for name, time in rows)]


def told_pairs(told, most):
    """Return the pairs up to most that an answer of told_back stands for."""
    if told[0] == "none":
        return []
    if told[0] == "any":
        return [(letter, gap) for letter in range(1, most + 1) for gap in range(1, most + 1)]
    if told[0] == "one":
        return [told[1]]
    _, (letter, gap), (a, b), count = told
    pairs = [(letter + step * a, gap + step * b) for step in range(most + 1 if count is None else count)]
    return [pair for pair in pairs if max(pair) <= most] if count is None else pairs


class Explains(TellCase):

    def test_by_known_at(self):
        names = first_names(Machine.of(3, 2), 40)
        for letter in range(1, 7):
            for gap in range(1, 7):
                rows = [(name, known_at(Machine.of(letter, gap), name)) for name in names]
                for other in range(1, 7):
                    for another in range(1, 7):
                        self.assertIs(explains(rows, other, another), (other, another) == (letter, gap))

    def test_each_sighting_counts(self):
        rows = [((0, 1), 7), ((0, 0, 0), 8), ((0,), 0), ((0, 2, 1), 17)]
        self.assertIs(explains(rows, 4, 3), True)
        for at, (name, time) in enumerate(rows):
            self.assertIs(explains(rows[:at] + [(name, time + 1)] + rows[at + 1:], 4, 3), False)

    def test_nothing_and_the_root(self):
        for rows in ([], (), [((0,), 0)], [((0,), 0)] * 60):
            self.assertIs(explains(rows, 1, 1), True)
            self.assertIs(explains(rows, LATEST, LATEST), True)
        for rows in ([((0,), 1)], [((0,), LATEST)], [((0,), 0), ((0, 0), 1), ((0,), 5)]):
            self.assertIs(explains(rows, 1, 1), False)

    def test_great_numbers(self):
        deep = (0,) + (10 ** 15,) * 199
        self.assertIs(explains([(deep, 199 * 5 + 199 * 10 ** 15 * 3)], 5, 3), True)
        self.assertIs(explains([(deep, 199 * 5 + 199 * 10 ** 15 * 3 - 1)], 5, 3), False)
        self.assertIs(explains([((0, 0), LATEST)], LATEST, LATEST), True)
        self.assertIs(explains([((0, 1), LATEST)], LATEST, 1), False)
        self.assertIs(explains([((0, 1), LATEST)], LATEST - 1, 1), True)

    def test_wrong_pairs(self):
        for wrong in NO_INTEGERS + [None, 0, -1, LATEST + 1, 10 ** 40]:
            for rows in ([], [((0, 0), 5)]):
                self.assert_raises(InvalidMachine("letter"), explains, rows, wrong, 1)
                self.assert_raises(InvalidMachine("gap"), explains, rows, 1, wrong)
                self.assert_raises(InvalidMachine("letter"), explains, rows, wrong, wrong)
            self.assert_raises(InvalidRows(0), explains, [None], wrong, wrong)
            self.assert_raises(InvalidRows(-1), explains, None, wrong, 1)
            self.assert_raises(InvalidRows(1), explains, [((0,), 7), ((0,), -1)], 1, wrong)


class WrongSightings(TellCase):

    def assert_wrong(self, at, rows):
        """Check that the functions that take sightings raise the error."""
        self.assert_raises(InvalidRows(at), explains, rows, 1, 1)
        self.assert_raises(InvalidRows(at), told_back, rows)

    def test_no_list_or_too_many(self):
        for thing in NO_LISTS:
            self.assert_wrong(-1, thing)
        self.assert_wrong(-1, [((0,), 0)] * 61)
        self.assert_wrong(-1, (((0,), 0),) * 61)
        self.assert_wrong(-1, [None] * 61)
        self.assertEqual(told_back([((0,), 0)] * 60), ("any",))
        self.assertEqual(told_back((((0, 0), 5),) * 60), ("line", (5, 1), (0, 1), None))

    def test_wrong_items(self):
        right = ((0, 1), 7)
        for wrong in wrong_sightings():
            self.assert_wrong(0, [wrong])
            self.assert_wrong(2, (right, right, wrong, None))
            self.assert_wrong(59, [right] * 59 + [wrong])

    def test_right_items(self):
        for sighting in [((0,), 0), ((0,), LATEST), ((0,) * 200, 0), ((0, 10 ** 15), LATEST), ((0, 0), 0)]:
            told_back([sighting])
            explains([sighting], 1, 1)

    def test_the_order_of_looking(self):
        self.assert_wrong(1, [((0,), 5), ((0, 1), True), ((0, 0), -1)])
        self.assert_wrong(0, [((0, 0), -1), ((0,), 5), None])


class ToldBack(TellCase):

    def check_rows(self, rows, most):
        """Check an answer against all pairs up to most, which is at least each time, and return it."""
        told = told_back(rows)
        self.assertIs(type(told), tuple)
        self.assertEqual(told_pairs(told, most), plain_pairs(rows, most), rows)
        if told[0] == "line":
            self.assertTrue(told[3] is None or told[3] > 1)
        return told

    def test_none(self):
        for rows in ([((0,), 1)], [((0,), LATEST)], [((0, 0), 0)], [((0, 1), 1)], [((0, 1), 0)], [((0, 0, 0), 3)],
                     [((0, 0), 3), ((0, 0), 4)], [((0, 0), 3), ((0, 0, 0), 7)], [((0, 1), 7), ((0, 1), 8)],
                     [((0, 0), 3), ((0, 1), 3)], [((0, 0), 3), ((0, 2), 6)], [((0, 1), 7), ((0,), 2)],
                     [((0,), 2), ((0, 1), 7)], [((0, 0), 3), ((0, 1), 5), ((0, 2), 8)], [((0, 1, 1), 7)]):
            self.assertEqual(self.check_rows(rows, 10), ("none",))

    def test_any(self):
        for rows in ([], (), [((0,), 0)], [((0,), 0)] * 60):
            self.assertEqual(self.check_rows(rows, 10), ("any",))

    def test_one(self):
        for rows, pair in [([((0, 0), 3), ((0, 1), 5)], (3, 2)), ([((0, 1), 2)], (1, 1)), ([((0, 1, 1), 4)], (1, 1)),
                           ([((0, 3), 5)], (2, 1)), ([((0, 3), 4)], (1, 1)), ([((0,), 0), ((0, 1, 0), 3)], (1, 1)),
                           ([((0, 0, 1), 8), ((0, 0, 1), 8), ((0, 4, 0, 0), 17)], (3, 2))]:
            self.assertEqual(self.check_rows(rows, 20), ("one", pair))

    def test_lines(self):
        for rows, told in [
                ([((0, 1), 3)], ("line", (1, 2), (1, -1), 2)), ([((0, 0), 1)], ("line", (1, 1), (0, 1), None)),
                ([((0, 0, 0), 10), ((0, 0), 5), ((0,), 0)], ("line", (5, 1), (0, 1), None)),
                ([((0, 3), 20)], ("line", (2, 6), (3, -1), 6)), ([((0, 2, 0), 12)], ("line", (1, 5), (1, -1), 5)),
                ([((0, 1, 0), 11)], ("line", (1, 9), (1, -2), 5)),
                ([((0, 2, 1, 0, 0), 29)], ("line", (2, 7), (3, -4), 2)),
                ([((0, 3, 1, 0, 2), 30)], ("line", (3, 3), (3, -2), 2))]:
            self.assertEqual(self.check_rows(rows, 40), told, rows)

    def test_one_ratio_several_times(self):
        rows = [((0, 1), 7), ((0, 2, 0), 14), ((0, 0, 1, 2), 21), ((0, 1), 7), ((0,), 0)]
        self.assertEqual(self.check_rows(rows, 21), ("line", (1, 6), (1, -1), 6))
        self.assertEqual(self.check_rows(rows[::-1], 21), ("line", (1, 6), (1, -1), 6))
        self.assertEqual(self.check_rows(rows + [((0, 3, 1, 0, 0), 27)], 28), ("none",))
        self.assertEqual(self.check_rows([((0, 1, 2), 7), ((0, 3, 0), 7), ((0, 6, 0, 0, 0), 14)], 14),
                         ("one", (2, 1)))
        # Both are multiples of 2 * D + 3 * G, and the second one tells that it is odd.
        self.assertEqual(self.check_rows([((0, 6, 0, 0, 0), 34), ((0, 3, 0), 17)], 34), ("line", (1, 5), (3, -2), 3))
        self.assertEqual(self.check_rows([((0, 6, 0, 0, 0), 33)], 33), ("none",))
        self.assertEqual(self.check_rows([((0, 6, 0, 0, 0), 34), ((0, 9, 0, 0, 0, 0, 0), 52)], 52), ("none",))

    def test_against_all_small_pairs(self):
        source = random.Random(69)
        kinds = {}
        for _ in range(6000):
            letter, gap = source.randint(1, 9), source.randint(1, 9)
            rows = []
            for _ in range(source.randint(1, 3)):
                name = (0,) + tuple(source.choice([0, 0, 1, 2, 3]) for _ in range(source.choice([0, 1, 1, 2, 3])))
                time = (len(name) - 1) * letter + sum(name) * gap
                rows.append((name, time if source.random() < 0.8 else source.randint(0, 12)))
            if max(time for _, time in rows) <= 40:
                told = self.check_rows(rows, max(1, max(time for _, time in rows)))
                kinds[told[0]] = kinds.get(told[0], 0) + 1
        self.assertEqual(set(kinds), {"none", "any", "one", "line"})
        self.assertGreater(min(kinds.values()), 50)

    def check_line(self, rows):
        """Check the first, the last and the next pairs of a line, and that no pair is left out."""
        word, first, step, count = told_back(rows)
        self.assertEqual((word, type(count)), ("line", int))
        self.assertGreater(count, 1)
        last = (first[0] + (count - 1) * step[0], first[1] + (count - 1) * step[1])
        self.assertTrue(explains(rows, *first))
        self.assertTrue(explains(rows, *last))
        self.assertGreater(min(first + last), 0)
        self.assertGreater(step[0], 0)
        # The pairs of integers on a line are a step without a common divisor apart.
        self.assertEqual(gcd(*step), 1)
        self.assertLessEqual(min(first[0] - step[0], first[1] - step[1]), 0)
        self.assertLessEqual(min(last[0] + step[0], last[1] + step[1]), 0)
        return count

    def test_long_lines(self):
        source = random.Random(70)
        for k, great, time in [(1, 1, LATEST), (199, 1, LATEST), (198, 3, LATEST - 7), (2, 10 ** 15, LATEST),
                               (7, 10 ** 6, 10 ** 19 + 1), (199, 10 ** 9, LATEST - 3), (197, 10 ** 12, 10 ** 18)]:
            for _ in range(20):
                name = (0,) + tuple(source.randint(0, great) for _ in range(k))
                parts = gcd(k, sum(name))
                if sum(name) > 0:
                    self.assertGreater(self.check_line([(name, time - time % parts)]), 1)
        self.assertEqual(told_back([((0, 1), LATEST)]), ("line", (1, LATEST - 1), (1, -1), LATEST - 1))
        self.assertEqual(told_back([((0, 10 ** 15), LATEST)]), (
            "line", (10 ** 15, 10 ** 5 - 1), (10 ** 15, -1), 10 ** 5 - 1))
        self.assertEqual(told_back([((0,) * 200, 199 * 5)]), ("line", (5, 1), (0, 1), None))
        self.assertEqual(told_back([((0,) * 200, LATEST)]), ("none",))

    def test_great_single_pairs(self):
        for letter, gap in [(1, 1), (10 ** 17, 10 ** 3), (5 * 10 ** 17 + 1, 7), (123456789, 987654)]:
            names = [(0, 0), (0, 1), (0,) + (0,) * 198 + (1,), (0, 3, 10 ** 9), (0,) + (1,) * 199]
            rows = [(name, (len(name) - 1) * letter + sum(name) * gap) for name in names]
            rows = [row for row in rows if row[1] <= LATEST]
            self.assertEqual(told_back(rows), ("one", (letter, gap)))
            self.assertEqual(told_back(rows[1:]), ("one", (letter, gap)))
            name, time = rows[-1]
            self.assertEqual(told_back(rows[:-1] + [(name, time - 1)]), ("none",))

    def test_names_of_a_great_machine(self):
        for letter, gap in [(BILLION, 1), (1, BILLION), (BILLION - 1, 997), (10 ** 6, 10 ** 6)]:
            machine = Machine.of(letter, gap)
            rows = [(name, known_at(machine, name)) for name in first_names(machine, 60)]
            self.assertTrue(explains(rows, letter, gap))
            depths = {(len(name) - 1) * 10 ** 6 - sum(name) for name, _ in rows}
            self.assertGreater(len(depths), 2)
            told = told_back(rows)
            if any(sum(name) > 0 for name, _ in rows):
                self.assertEqual(told, ("one", (letter, gap)))
            else:
                self.assertEqual(told, ("line", (letter, 1), (0, 1), None))


if __name__ == "__main__":
    unittest.main()
