"""One tree through all modules: they tell the same hands and times."""

import unittest

from tellontree.bands import band_of, bands, explains, told_back
from tellontree.counts import layer, least_time, next_time, reach
from tellontree.desk import Desk
from tellontree.gathers import gather_ends, gather_fault, heard, turned_gather, turned_plan
from tellontree.letters import known_letters, letters_ends, letters_fault, letters_plan
from tellontree.machines import Machine
from tellontree.names import first_names, known_at, name_at, names_until, place_of
from tellontree.plans import best_plan, ends, fault, names_of, plan_of
from tellontree.sums import most_summed, slower, sum_ends, sum_fault, sum_plan
from tellontree.texts import read_sheet, read_sightings, write_sheet, write_sightings
from tests.helper import TellCase

BILLION = 10 ** 9
MACHINES = [Machine(1, 2, 2), Machine(0, 3, 2), Machine(2, 1, 1), Machine(0, 1, 7), Machine(5, 300, 3),
            Machine(BILLION, BILLION, 1), Machine(0, 1, BILLION), Machine(10 ** 8 + 7, 3, BILLION),
            Machine(0, BILLION, 1)]
HANDS = [2, 3, 5, 13, 20, 40]


def trees():
    """Yield a machine, a number of hands, their names, the times at which they know, and the plan."""
    for machine in MACHINES:
        for n in HANDS:
            names = first_names(machine, n)
            yield machine, n, names, [known_at(machine, name) for name in names], plan_of(machine, names)


class OneTree(TellCase):

    def test_names_and_counts(self):
        for machine, n, names, times, plan in trees():
            self.assertEqual(times, sorted(times))
            self.assertEqual(times[-1], least_time(machine, n))
            self.assertEqual([place_of(machine, name) for name in names], list(range(n)))
            self.assertEqual([name_at(machine, number) for number in range(n)], names)
            before = [name for name, time in zip(names, times) if time < times[-1]]
            self.assertEqual(reach(machine, times[-1] - 1), len(before))
            self.assertEqual(reach(machine, times[-1]), len(before) + layer(machine, times[-1]))
            self.assertEqual(list(names_until(machine, times[-1] - 1)), before)
            later = sorted(set(times))
            self.assertEqual([next_time(machine, time) for time in later[:-1]], later[1:])

    def test_plan(self):
        for machine, n, names, times, plan in trees():
            self.assertEqual(plan, best_plan(machine, n))
            self.assertIsNone(fault(machine, n, plan))
            self.assertEqual(names_of(machine, n, plan), names)
            self.assertEqual([0] + [start + machine.letter for _, _, start in plan], times)
            self.assertEqual(ends(machine, n, plan), times[-1])

    def test_bands(self):
        for machine, n, names, times, plan in trees():
            if n <= 20:
                k, j = band_of(machine, n)
                self.assertEqual(k * machine.letter + j * machine.gap, times[-1])
                self.assertIn((k, j), [band[2:] for band in bands(n)])

    def test_sheets(self):
        for machine, n, names, times, plan in trees():
            told = read_sheet(write_sheet(machine, n, plan))
            self.assertEqual(told, (machine, n, plan, None))
            self.assertEqual(names_of(*told[:3]), names)

    def test_desk(self):
        for machine, n, names, times, plan in trees():
            desk = Desk.holding(machine, n, plan)
            self.assertEqual((desk.plan(), desk.fault(), desk.ends(), desk.late()), (plan, None, times[-1], 0))
            other = Desk(machine, n)
            other.fill()
            self.assertEqual(other.plan(), plan)
            other += 5
            other.tighten()
            self.assertEqual(other.plan(), plan)
            for time in (0, times[1] - 1, times[1], times[-1] - 1, times[-1]):
                known = [hand for hand in range(n) if times[hand] <= time]
                self.assertEqual(desk(time), known)
            self.assertEqual(desk.trial([("later", 3)]), (None, times[-1] + 3))
            self.assertEqual(read_sheet(write_sheet(desk.machine, desk.hands, desk.plan())), (machine, n, plan, None))

    def test_gather(self):
        for machine, n, names, times, plan in trees():
            rows = turned_plan(machine, n, plan)
            self.assertIsNone(gather_fault(machine, n, rows))
            self.assertEqual(gather_ends(machine, n, rows), times[-1])
            self.assertEqual(turned_gather(machine, n, rows), plan)
            self.assertEqual(heard(machine, n, rows, 0, times[-1]), list(range(n)))
            # A hand's letter starts as long before the end as the hand knows behind the beginning.
            self.assertEqual([start for _, _, start in rows], [times[-1] - time for time in times[1:]])

    def test_one_letter(self):
        for machine, n, names, times, plan in trees():
            rows = [(0, *row) for row in plan]
            self.assertIsNone(letters_fault(machine, n, [0], rows))
            self.assertEqual(letters_ends(machine, n, [0], rows), [times[-1]])
            for hand in range(n):
                self.assertEqual(known_letters(machine, n, [0], rows, hand, times[hand]), [0])
                if hand > 0:
                    self.assertEqual(known_letters(machine, n, [0], rows, hand, times[hand] - 1), [])
            self.assertEqual(read_sheet(write_sheet(machine, n, rows, sources=[0])), (machine, n, rows, [0]))
            self.assertEqual(letters_ends(machine, n, [0], letters_plan(machine, n, 1)), [times[-1]])

    def test_sightings(self):
        for machine, n, names, times, plan in trees():
            rows = list(zip(names, times))
            self.assertTrue(explains(rows, machine.letter, machine.gap))
            self.assertFalse(explains(rows, machine.letter + 1, machine.gap))
            self.assertEqual(read_sightings(write_sightings(rows)), rows)
            told = told_back(rows)
            if any(sum(name) > 0 for name in names):
                self.assertEqual(told, ("one", (machine.letter, machine.gap)))
            else:
                self.assertEqual(told, ("line", (machine.letter, 1), (0, 1), None))

    def test_sums_on_the_slower_machine(self):
        for machine in MACHINES[:5]:
            slow = slower(machine)
            for n in HANDS:
                times = [known_at(slow, name) for name in first_names(slow, n)]
                end = times[-1]
                # Turned round, the tree of the slower machine is a gather in which all hands have numbers.
                turned = turned_plan(slow, n, best_plan(slow, n))
                own = [end + 1] + [start + 1 for _, _, start in turned]
                for _, receiver, _ in turned:
                    own[receiver] -= machine.o + 1
                self.assertGreater(min(own), 0)
                self.assertIsNone(sum_fault(machine, n, end, (turned, own)))
                self.assertEqual(sum_ends(machine, n, (turned, own)), end)
                rows, best = sum_plan(machine, n, end)
                self.assertEqual(sum(best), most_summed(machine, n, end))
                self.assertGreaterEqual(sum(best), sum(own))
                starts = sorted(start for _, _, start in rows)
                self.assertEqual(starts, sorted(end - time for time in times[1:] if end - time > machine.o))


if __name__ == "__main__":
    unittest.main()
