"""Machines: points 5 and 6."""

import unittest

from tellontree.errors import InvalidMachine
from tellontree.machines import Machine
from tests.helper import NO_INTEGERS, TellCase

TOP = 10 ** 9


class MakingMachines(TellCase):

    def test_attributes(self):
        machine = Machine(2, 7, 3)
        self.assertEqual((machine.o, machine.l, machine.g, machine.letter, machine.gap), (2, 7, 3, 11, 3))

    def test_gap_is_the_greater_one(self):
        self.assertEqual([Machine(5, 1, 2).gap, Machine(2, 1, 5).gap, Machine(4, 1, 4).gap], [5, 5, 4])

    def test_least_and_greatest_numbers(self):
        for o, l, g in [(0, 1, 1), (1, 0, 1), (TOP, 0, 1), (0, TOP, 1), (0, 1, TOP), (TOP, TOP, TOP)]:
            with self.subTest((o, l, g)):
                machine = Machine(o, l, g)
                self.assertEqual((machine.o, machine.l, machine.g), (o, l, g))
                self.assertEqual((machine.letter, machine.gap), (2 * o + l, max(o, g)))

    def test_all_small_numbers(self):
        for o in range(6):
            for l in range(12):
                for g in range(1, 8):
                    if o + l > 0:
                        machine = Machine(o, l, g)
                        numbers = (machine.o, machine.l, machine.g, machine.letter, machine.gap)
                        self.assertEqual(numbers, (o, l, g, o + l + o, o if o > g else g))

    def test_by_name_in_any_order(self):
        machine = Machine(g=3, o=2, l=7)
        self.assertEqual((machine.o, machine.l, machine.g), (2, 7, 3))

    def test_one_beyond(self):
        for wrong in (-1, TOP + 1, -TOP, 10 ** 30):
            self.assert_raises(InvalidMachine("o"), Machine, wrong, 1, 1)
            self.assert_raises(InvalidMachine("l"), Machine, 1, wrong, 1)
            self.assert_raises(InvalidMachine("g"), Machine, 1, 1, wrong)
        self.assert_raises(InvalidMachine("g"), Machine, 1, 1, 0)

    def test_no_integers(self):
        for wrong in NO_INTEGERS + [None]:
            self.assert_raises(InvalidMachine("o"), Machine, wrong, 1, 1)
            self.assert_raises(InvalidMachine("l"), Machine, 1, wrong, 1)
            self.assert_raises(InvalidMachine("g"), Machine, 1, 1, wrong)

    def test_first_wrong_number_is_named(self):
        self.assert_raises(InvalidMachine("o"), Machine, -1, -1, 0)
        self.assert_raises(InvalidMachine("o"), Machine, TOP + 1, None, "g")
        self.assert_raises(InvalidMachine("o"), Machine, True, 1, 0)
        self.assert_raises(InvalidMachine("l"), Machine, 0, -1, 0)
        self.assert_raises(InvalidMachine("l"), Machine, 0, False, 0)
        self.assert_raises(InvalidMachine("g"), Machine, 0, 0, 0)

    def test_letter_zero(self):
        self.assert_raises(InvalidMachine("letter"), Machine, 0, 0, 1)
        self.assert_raises(InvalidMachine("letter"), Machine, 0, 0, TOP)


class MachineOf(TellCase):

    def test_it_is_never_busy(self):
        machine = Machine.of(3, 2)
        self.assertEqual((machine.o, machine.l, machine.g, machine.letter, machine.gap), (0, 3, 2, 3, 2))
        self.assertIs(type(machine), Machine)

    def test_least_and_greatest(self):
        for letter, gap in [(1, 1), (1, TOP), (TOP, 1), (TOP, TOP)]:
            machine = Machine.of(gap=gap, letter=letter)
            self.assertEqual((machine.letter, machine.gap), (letter, gap))

    def test_wrong_numbers(self):
        for wrong in NO_INTEGERS + [None, 0, -1, TOP + 1]:
            self.assert_raises(InvalidMachine("letter"), Machine.of, wrong, 1)
            self.assert_raises(InvalidMachine("gap"), Machine.of, 1, wrong)
            self.assert_raises(InvalidMachine("letter"), Machine.of, wrong, wrong)


class Products(TellCase):

    def test_each_number_is_multiplied(self):
        machine = Machine(2, 7, 3)
        product = machine * 5
        self.assertEqual((product.o, product.l, product.g, product.letter, product.gap), (10, 35, 15, 55, 15))
        self.assertEqual((machine.o, machine.l, machine.g, machine.letter, machine.gap), (2, 7, 3, 11, 3))

    def test_factor_one(self):
        machine = Machine(2, 7, 3)
        self.assertEqual(machine * 1, machine)

    def test_greatest_products(self):
        product = Machine(1, 1, 1) * TOP
        self.assertEqual((product.o, product.l, product.g), (TOP, TOP, TOP))

    def test_wrong_factors(self):
        for wrong in NO_INTEGERS + [None, 0, -1, -TOP]:
            self.assert_raises(InvalidMachine("factor"), lambda: Machine(1, 1, 1) * wrong)
        for wrong in (0, -2, 1.5):
            self.assert_raises(InvalidMachine("factor"), lambda: Machine(TOP, TOP, TOP) * wrong)

    def test_products_that_are_too_great(self):
        self.assert_raises(InvalidMachine("o"), lambda: Machine(1, 1, 1) * (TOP + 1))
        self.assert_raises(InvalidMachine("o"), lambda: Machine(TOP, TOP, TOP) * 2)
        self.assert_raises(InvalidMachine("l"), lambda: Machine(0, 1, 1) * (TOP + 1))
        self.assert_raises(InvalidMachine("l"), lambda: Machine(1, 5, 1) * (TOP // 5 + 1))
        self.assert_raises(InvalidMachine("g"), lambda: Machine(1, 0, 5) * (TOP // 5 + 1))
        self.assert_raises(InvalidMachine("g"), lambda: Machine(1, 0, TOP) * 2)
        self.assert_raises(InvalidMachine("o"), lambda: Machine(1, 1, 1) * 10 ** 40)


class Equality(unittest.TestCase):

    def test_equal(self):
        self.assertTrue(Machine(2, 7, 3) == Machine(2, 7, 3))
        self.assertFalse(Machine(2, 7, 3) != Machine(2, 7, 3))
        self.assertTrue(Machine.of(3, 2) == Machine(0, 3, 2))

    def test_each_number_counts(self):
        for o, l, g in [(3, 7, 3), (2, 8, 3), (2, 7, 4)]:
            self.assertFalse(Machine(2, 7, 3) == Machine(o, l, g))
            self.assertTrue(Machine(2, 7, 3) != Machine(o, l, g))

    def test_same_letter_and_gap_are_not_enough(self):
        self.assertFalse(Machine(1, 1, 2) == Machine.of(3, 2))
        self.assertFalse(Machine(2, 1, 1) == Machine(2, 1, 2))

    def test_no_machine(self):
        machine = Machine(2, 7, 3)
        for thing in NO_INTEGERS + [None, (2, 7, 3), [2, 7, 3], 11, {"o": 2, "l": 7, "g": 3}]:
            if not isinstance(thing, Machine):
                self.assertIs(machine == thing, False)
                self.assertIs(machine != thing, True)


if __name__ == "__main__":
    unittest.main()
