"""The worked examples of the document, and the examples that stand in its points."""

from tellontree.bands import band_of, bands, told_back
from tellontree.counts import fewest_turns, layer, least_time, next_time, reach
from tellontree.desk import Desk
from tellontree.errors import InvalidMachine, InvalidPlan, InvalidText
from tellontree.gathers import gather_ends, gather_fault, heard, turned_plan
from tellontree.letters import bounds, doing, letters_fault
from tellontree.machines import Machine
from tellontree.names import first_names, known_at, name_at, place_of
from tellontree.plans import best_plan, earliest, ends, fault, latest, names_of, plan_of
from tellontree.rounds import everybody, least_period, round_plan
from tellontree.sums import least_sum_time, least_summers, most_summed, slower, sum_ends, sum_fault
from tellontree.texts import read_sightings, write_sheet
from tests.helper import TellCase


class WorkedExamples(TellCase):

    def test_machine(self):
        machine = Machine(1, 1, 2)
        told = [machine.letter, machine.gap, (machine * 3).letter, Machine.of(3, 2) == machine]
        self.assertEqual(told, [3, 2, 9, False])

    def test_letter_zero(self):
        self.assert_raises(InvalidMachine("letter"), Machine, 0, 0, 1)

    def test_reach_and_layer(self):
        machine = Machine.of(3, 2)
        told = [reach(machine, 0), reach(machine, 5), reach(machine, 8), layer(machine, 8), reach(machine, 8, turns=2)]
        self.assertEqual(told, [1, 3, 7, 2, 6])

    def test_times_and_turns(self):
        machine = Machine.of(3, 2)
        told = [
            least_time(machine, 7), least_time(machine, 4, turns=1), next_time(machine, 3), fewest_turns(machine, 7)]
        self.assertEqual(told, [8, 9, 5, 3])

    def test_least_time_of_many(self):
        self.assertEqual(least_time(Machine.of(1, 1), 10 ** 30), 100)

    def test_first_names(self):
        self.assertEqual(first_names(Machine.of(3, 2), 7), [
            (0,), (0, 0), (0, 1), (0, 0, 0), (0, 2), (0, 0, 1), (0, 1, 0)])

    def test_names_and_places(self):
        machine = Machine.of(3, 2)
        told = [
            name_at(machine, 6), place_of(machine, (0, 1, 0)), name_at(machine, 5, roots=[0, 1]),
            known_at(machine, (1, 1), roots=[0, 1])]
        self.assertEqual(told, [(0, 1, 0), 6, (1, 1), 6])

    def test_fault(self):
        machine = Machine.of(3, 2)
        told = [
            fault(machine, 3, [(0, 1, 0), (0, 2, 1)]), fault(machine, 3, [(1, 2, 2), (0, 1, 0)]),
            fault(machine, 3, [(0, 1, 0)])]
        self.assertEqual(told, [("gap", 1), ("early", 0), ("nobody", 2)])

    def test_ends_of_a_wrong_plan(self):
        self.assert_raises(InvalidPlan("nobody", 2), ends, Machine.of(3, 2), 3, [(0, 1, 0)])

    def test_best_plan(self):
        self.assertEqual(best_plan(Machine.of(3, 2), 4), [(0, 1, 0), (0, 2, 2), (1, 3, 3)])

    def test_earliest_and_latest(self):
        machine = Machine.of(3, 2)
        plan = [(0, 2, 1), (0, 1, 5), (2, 3, 9)]
        told = [
            ends(machine, 4, plan), names_of(machine, 4, plan), earliest(machine, 4, plan),
            latest(machine, 4, plan, until=14)]
        self.assertEqual(told, [
            12, [(0,), (0, 1), (0, 0), (0, 0, 0)], [(0, 2, 0), (0, 1, 2), (2, 3, 3)],
            [(0, 2, 8), (0, 1, 11), (2, 3, 11)]])

    def test_plan_of(self):
        self.assertEqual(plan_of(Machine.of(3, 2), [(0,), (0, 1), (0, 0)]), [(0, 1, 2), (0, 2, 0)])

    def test_turned_plan(self):
        self.assertEqual(turned_plan(Machine(1, 2, 2), 3, [(0, 1, 0), (0, 2, 2)]), [(1, 0, 2), (2, 0, 0)])

    def test_gather_fault(self):
        machine = Machine(1, 2, 2)
        told = [
            gather_fault(machine, 3, [(1, 0, 0), (2, 0, 1)]), gather_fault(machine, 3, [(1, 2, 0), (2, 0, 3)])]
        self.assertEqual(told, [("gap", 1), ("early", 1)])

    def test_gather_ends_and_heard(self):
        machine = Machine(1, 2, 2)
        rows = [(1, 2, 0), (2, 0, 4), (3, 0, 1)]
        told = [gather_ends(machine, 4, rows), heard(machine, 4, rows, 0, 5), heard(machine, 4, rows, 2, 4)]
        self.assertEqual(told, [8, [0, 3], [1, 2]])

    def test_letters(self):
        machine = Machine(1, 2, 2)
        rows = [(0, 0, 1, 0), (0, 1, 2, 4), (1, 0, 1, 2), (1, 1, 2, 6)]
        told = [letters_fault(machine, 3, [0, 0], rows), doing(machine, 3, [0, 0], rows, 1, 5)]
        self.assertEqual(told, [None, ("receiving", 2)])

    def test_busy_letters(self):
        rows = [(0, 0, 1, 3), (1, 1, 0, 0)]
        self.assertEqual(letters_fault(Machine(1, 2, 2), 2, [0, 1], rows), ("busy", 1))

    def test_bounds(self):
        self.assertEqual(bounds(Machine(1, 2, 2), 3, 2), (8, 10))

    def test_rounds(self):
        machine = Machine(2, 1, 1)
        told = [least_period(machine, 3), everybody(machine, 3), round_plan(machine, 3, period=2)[:3]]
        self.assertEqual(told, [5, (8, 10), [(0, 0, 1, 0), (0, 0, 2, 2), (1, 1, 2, 0)]])

    def test_bands(self):
        self.assertEqual(bands(4), [
            ((0, 1), (1, 2), 3, 0), ((1, 2), (1, 1), 1, 1), ((1, 1), (2, 1), 2, 0), ((2, 1), None, 1, 2)])

    def test_band_of(self):
        self.assertEqual([band_of(Machine(0, 2, 2), 4), band_of(Machine(0, 3, 2), 4)], [(1, 1), (2, 0)])

    def test_told_back(self):
        told = [told_back([((0, 1), 7)]), told_back([((0, 1), 7), ((0, 0, 0), 8)]), told_back([((0, 0), 5)])]
        self.assertEqual(told, [("line", (1, 6), (1, -1), 6), ("one", (4, 3)), ("line", (5, 1), (0, 1), None)])

    def test_write_sheet(self):
        told = write_sheet(Machine(1, 2, 2), 3, [(0, 2, 0), (2, 1, 7)]).split("\n")
        self.assertEqual(told, ["machine 1 2 2", "hands 3", "tell 0 2 0", "tell 2 1 7", ""])

    def test_read_sightings(self):
        self.assertEqual(read_sightings("seen 0.2.0 11\nseen 0 0\n"), [((0, 2, 0), 11), ((0,), 0)])

    def test_read_wrong_sightings(self):
        self.assert_raises(InvalidText(2), read_sightings, "seen 0.2 6\nseen 1.0 4\n")

    def test_desk(self):
        desk = Desk.holding(Machine(1, 2, 2), 3, [(0, 1, 5), (1, 2, 9)])
        desk.attempt([("tighten",), ("later", 1)])
        self.assertEqual([desk.plan(), desk.ends(), desk.late(), desk(5)], [[(0, 1, 1), (1, 2, 5)], 9, 3, [0, 1]])

    def test_sums(self):
        machine = Machine(1, 2, 2)
        told = [
            most_summed(machine, 2, 8), most_summed(machine, 3, 10), sum_fault(machine, 2, 8, ([(1, 0, 3)], [7, 4])),
            sum_fault(machine, 2, 8, ([(1, 0, 3)], [7, 5])), sum_ends(machine, 2, ([(1, 0, 3)], [7, 4])),
            least_sum_time(machine, 2, 10), least_summers(machine, 10, 16), least_summers(machine, 8, 12)]
        self.assertEqual(told, [11, 17, None, ("busy", 1), 8, 8, 3, None])

    def test_slower(self):
        told = [slower(Machine(1, 2, 2)) == Machine.of(5, 2), sum_ends(Machine(1, 2, 2), 3, ([(1, 0, 0)], [1, 1, 0]))]
        self.assertEqual(told, [True, 5])

    def test_sum_ends_of_a_wrong_plan(self):
        self.assert_raises(InvalidPlan("nobody", 1), sum_ends, Machine(1, 2, 2), 2, ([], [1, 1]))


class ExamplesWithinPoints(TellCase):

    def test_point_55(self):
        machine = Machine(1, 2, 2)
        self.assertEqual((machine.letter, machine.gap), (4, 2))
        turned = turned_plan(machine, 3, [(0, 1, 0), (0, 2, 2)])
        self.assertEqual(turned, [(1, 0, 2), (2, 0, 0)])
        self.assertEqual(gather_ends(machine, 3, turned), 6)
        self.assertEqual(gather_fault(machine, 3, [(1, 0, 0), (2, 0, 1)]), ("gap", 1))

    def test_point_61(self):
        machine = Machine(1, 2, 2)
        self.assertEqual(least_time(machine, 3) + machine.gap, 6 + 2)
        self.assertEqual([least_time(machine, 3, turns=d) for d in (1, 2)], [8, 6])
        self.assertEqual(bounds(machine, 3, 2), (8, 10))

    def test_point_64(self):
        machine = Machine(2, 1, 1)
        self.assertEqual((machine.letter, machine.gap), (5, 2))
        self.assertEqual(least_period(machine, 3), 5)
        self.assertEqual(everybody(machine, 3), (8, 10))

    def test_point_65(self):
        self.assertEqual(bands(4), [
            ((0, 1), (1, 2), 3, 0), ((1, 2), (1, 1), 1, 1), ((1, 1), (2, 1), 2, 0), ((2, 1), None, 1, 2)])

    def test_point_69(self):
        self.assertEqual(told_back([((0, 1), 7)]), ("line", (1, 6), (1, -1), 6))
        self.assertEqual(told_back([((0, 1), 7), ((0, 0, 0), 8)]), ("one", (4, 3)))
        self.assertEqual(told_back([((0, 1), 7), ((0, 0, 2), 11)]), ("none",))

    def test_point_97(self):
        machine = Machine(1, 2, 2)
        slow = slower(machine)
        self.assertEqual((slow.letter, slow.gap), (5, 2))
        self.assertEqual([known_at(slow, name) for name in first_names(slow, 5)], [0, 5, 7, 9, 10])
        self.assertEqual(most_summed(machine, 2, 8), 9 + (8 - 5 - 1))
        # Hand 1 sends at 3 and is received at 7.
        self.assertEqual(sum_fault(machine, 2, 8, ([(1, 0, 3)], [7, 4])), None)
        self.assertEqual(sum_ends(machine, 2, ([(1, 0, 3)], [1, 4])), 8)
