"""The worked examples of the document that import from errors, machines, counts and names alone."""

from tellontree.counts import fewest_turns, layer, least_time, next_time, reach
from tellontree.errors import InvalidMachine
from tellontree.machines import Machine
from tellontree.names import first_names, known_at, name_at, place_of
from tests.helper import TellCase


class WorkedExamples(TellCase):

    def test_machine(self):
        machine = Machine(1, 1, 2)
        told = [machine.letter, machine.gap, (machine * 3).letter, Machine.of(3, 2) == machine]
        self.assertEqual(told, [3, 2, 9, False])

    def test_letter_zero(self):
        self.assert_raises(InvalidMachine("letter"), Machine, 0, 0, 1)

    def test_reach_and_layer(self):
        machine = Machine.of(3, 2)
        told = [reach(machine, 0), reach(machine, 5), reach(machine, 8), layer(machine, 8), reach(machine, 8, turns=2)]
        self.assertEqual(told, [1, 3, 7, 2, 6])

    def test_times_and_turns(self):
        machine = Machine.of(3, 2)
        told = [
            least_time(machine, 7), least_time(machine, 4, turns=1), next_time(machine, 3), fewest_turns(machine, 7)]
        self.assertEqual(told, [8, 9, 5, 3])

    def test_least_time_of_many(self):
        self.assertEqual(least_time(Machine.of(1, 1), 10 ** 30), 100)

    def test_first_names(self):
        self.assertEqual(first_names(Machine.of(3, 2), 7), [
            (0,), (0, 0), (0, 1), (0, 0, 0), (0, 2), (0, 0, 1), (0, 1, 0)])

    def test_names_and_places(self):
        machine = Machine.of(3, 2)
        told = [
            name_at(machine, 6), place_of(machine, (0, 1, 0)), name_at(machine, 5, roots=[0, 1]),
            known_at(machine, (1, 1), roots=[0, 1])]
        self.assertEqual(told, [(0, 1, 0), 6, (1, 1), 6])
