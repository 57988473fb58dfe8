"""Names: points 10 to 12 and 18 to 21."""

import unittest
from types import GeneratorType

from tellontree.counts import layer, least_time, reach
from tellontree.errors import (
    InvalidCount, InvalidName, InvalidRoots, InvalidTime, InvalidTurns, LimitExceeded)
from tellontree.machines import Machine
from tellontree.names import first_names, is_name, known_at, name_at, names_until, place_of
from tests.helper import (
    FULL_ROOTS, FULL_TIME, NO_INTEGERS, TellCase, counted_place, horizon, in_order, listed_until, small_trees)

BILLION = 10 ** 9
TURNS_TOP = 10 ** 12
MOST_ITEM = 10 ** 15
MOST_NUMBER = 10 ** 30 - 1


class Things(TellCase):
    """Point 11, and what is_name, known_at and place_of make of it."""

    def assert_name(self, thing, **named):
        self.assertIs(is_name(thing, **named), True)
        self.assertIs(type(known_at(Machine.of(3, 2), thing, **named)), int)

    def assert_no_name(self, at, thing, **named):
        self.assertIs(is_name(thing, **named), False)
        self.assert_raises(InvalidName(at), known_at, Machine.of(3, 2), thing, **named)
        self.assert_raises(InvalidName(at), place_of, Machine.of(3, 2), thing, **named)

    def test_names(self):
        for thing in [(0,), (0, 0), (0, 5, 0, 7), (0, MOST_ITEM), (0,) * 200, (0,) + (MOST_ITEM,) * 199]:
            self.assert_name(thing)
        self.assert_name((0, 0, 0), turns=1)
        self.assert_name((0, 4, 4), turns=5)
        self.assert_name((0, TURNS_TOP - 1), turns=TURNS_TOP)
        for r in range(6):
            self.assert_name((r,), roots=[0, 0, 1, 1, 5, 10 ** 12])
            self.assert_name((r, 9), roots=(0, 0, 1, 1, 5, 10 ** 12))

    def test_root_number_is_no_turn(self):
        self.assert_name((3,), turns=1, roots=[0, 1, 2, 3])
        self.assert_name((3, 0), turns=1, roots=[0, 1, 2, 3])
        self.assert_no_name(1, (3, 1), turns=1, roots=[0, 1, 2, 3])

    def test_no_tuple(self):
        for thing in NO_INTEGERS + [None, 0, 5, [0], [0, 1], "(0,)", {0: 0}, ((0,)[0])]:
            if not isinstance(thing, tuple):
                self.assert_no_name(-1, thing)
                self.assert_no_name(-1, thing, turns=3, roots=[0, 1])

    def test_wrong_length(self):
        self.assert_no_name(-1, ())
        self.assert_no_name(-1, (0,) * 201)
        self.assert_no_name(-1, ("x",) * 201)
        self.assert_no_name(-1, [0] * 201)

    def test_wrong_root_number(self):
        self.assert_no_name(0, (1,))
        self.assert_no_name(0, (-1,))
        self.assert_no_name(0, (-1, 0))
        self.assert_no_name(0, (2, "x"), roots=[0, 0])
        self.assert_no_name(0, (6,), roots=[0] * 6)
        self.assert_no_name(0, (10 ** 30, 10 ** 30))

    def test_wrong_items(self):
        self.assert_no_name(1, (0, -1))
        self.assert_no_name(1, (0, MOST_ITEM + 1))
        self.assert_no_name(2, (0, 5, -1, -1))
        self.assert_no_name(3, (0, 5, MOST_ITEM, MOST_ITEM + 1, -1))
        self.assert_no_name(199, (0,) * 199 + (-1,))
        self.assert_no_name(1, (0, 1), turns=1)
        self.assert_no_name(2, (0, 4, 5), turns=5)
        self.assert_no_name(1, (0, TURNS_TOP), turns=TURNS_TOP)
        self.assert_no_name(1, (0, MOST_ITEM), turns=TURNS_TOP)

    def test_items_that_are_no_integers(self):
        for wrong in NO_INTEGERS + [None]:
            self.assert_no_name(0, (wrong,))
            self.assert_no_name(0, (wrong, wrong))
            self.assert_no_name(1, (0, wrong))
            self.assert_no_name(2, (0, 0, wrong, -1))
            self.assert_no_name(1, (0, wrong), turns=2)

    def test_wrong_turns_and_roots(self):
        for thing in [(0,), (5,), "x"]:
            for wrong in NO_INTEGERS + [0, -1, TURNS_TOP + 1]:
                self.assert_raises(InvalidTurns(), is_name, thing, turns=wrong)
                self.assert_raises(InvalidTurns(), is_name, thing, turns=wrong, roots=[])
            for wrong, at in [([], -1), ([0] * 7, -1), (None, -1), ([-1], 0), ([1, 0], 1), ([0, True], 1)]:
                self.assert_raises(InvalidRoots(at), is_name, thing, roots=wrong)


class KnownAt(TellCase):

    def test_times(self):
        machine = Machine.of(3, 2)
        self.assertEqual(known_at(machine, (0,)), 0)
        self.assertEqual(known_at(machine, (0, 0)), 3)
        self.assertEqual(known_at(machine, (0, 4)), 11)
        self.assertEqual(known_at(machine, (0, 4, 1, 0)), 19)
        self.assertEqual(known_at(machine, (1,), roots=[2, 7]), 7)
        self.assertEqual(known_at(machine, (1, 2, 2), roots=[2, 7], turns=3), 21)

    def test_behind_the_horizon(self):
        self.assertEqual(known_at(Machine.of(3, 2), (0,) * 200), 597)
        self.assertEqual(known_at(Machine.of(3, 2), (0, 0, MOST_ITEM)), 6 + 2 * MOST_ITEM)
        self.assertEqual(known_at(Machine.of(1, 1), (0,) * 50, turns=1), 49)
        self.assertEqual(known_at(Machine.of(1, 1), (0,), roots=[10 ** 12]), 10 ** 12)
        great = Machine(BILLION, BILLION, 1)
        wanted = 10 ** 12 + 199 * 3 * BILLION + 199 * MOST_ITEM * BILLION
        self.assertEqual(known_at(great, (0,) + (MOST_ITEM,) * 199, roots=(10 ** 12,)), wanted)

    def test_letter_and_gap_decide_alone(self):
        name = (1, 3, 0, 2)
        self.assertEqual(known_at(Machine(2, 1, 1), name, roots=[0, 1]), known_at(Machine.of(5, 2), name, roots=[0, 1]))


class SmallTrees(TellCase):
    """The answers against the tree itself, in the order of point 12."""

    def test_places_and_names(self):
        for machine, turns, roots, _, times in small_trees():
            names = in_order(times)
            for number in list(range(min(40, len(names)))) + list(range(40, len(names), 29)):
                name = names[number]
                with self.subTest((machine.letter, machine.gap, turns, roots, number)):
                    self.assertEqual(name_at(machine, number, turns=turns, roots=roots), name)
                    self.assertEqual(place_of(machine, name, turns=turns, roots=roots), number)
                    self.assertEqual(known_at(machine, name, turns=turns, roots=roots), times[name])

    def test_first_names(self):
        for machine, turns, roots, _, times in small_trees():
            names = in_order(times)
            for n in (1, 2, 7, 50, 100):
                if n <= len(names):
                    with self.subTest((machine.letter, machine.gap, turns, roots, n)):
                        self.assertEqual(first_names(machine, n, turns=turns, roots=roots), names[:n])

    def test_names_until(self):
        for machine, turns, roots, until, times in small_trees():
            names = in_order(times)
            for t in range(until):
                known = [name for name in names if times[name] <= t]
                with self.subTest((machine.letter, machine.gap, turns, roots, t)):
                    if len(known) <= 200:
                        self.assertEqual(listed_until(machine, t, turns=turns, roots=roots), known)
                    else:
                        self.assert_raises(
                            LimitExceeded("names"), listed_until, machine, t, turns=turns, roots=roots)

    def test_letter_and_gap_decide_alone(self):
        one, other = Machine(2, 1, 1), Machine.of(5, 2)
        self.assertEqual(first_names(one, 50, turns=3, roots=[0, 2]), first_names(other, 50, turns=3, roots=[0, 2]))
        self.assertEqual([name_at(one, x) for x in range(60)], [name_at(other, x) for x in range(60)])
        self.assertEqual(listed_until(one, 20), listed_until(other, 20))
        self.assertEqual(place_of(one, (0, 3, 1)), place_of(other, (0, 3, 1)))

    def test_kinds_of_answers(self):
        machine = Machine.of(3, 2)
        self.assertIs(type(name_at(machine, 6)), tuple)
        self.assertIs(type(place_of(machine, (0, 1))), int)
        self.assertIs(type(first_names(machine, 6)), list)
        for name in first_names(machine, 40) + listed_until(machine, 12) + [name_at(machine, 10 ** 20)]:
            self.assertIs(type(name), tuple)
            self.assertEqual({type(item) for item in name}, {int})


class Order(TellCase):

    def test_time_then_depth_then_tuple(self):
        # With the gap 1 and the letter 1 all of depth k and sum j are known at k + j.
        names = first_names(Machine.of(1, 1), 16)
        self.assertEqual(names, [
            (0,), (0, 0), (0, 1), (0, 0, 0), (0, 2), (0, 0, 1), (0, 1, 0), (0, 0, 0, 0),
            (0, 3), (0, 0, 2), (0, 1, 1), (0, 2, 0), (0, 0, 0, 1), (0, 0, 1, 0), (0, 1, 0, 0), (0, 0, 0, 0, 0)])

    def test_roots_come_in_their_places(self):
        names = first_names(Machine.of(2, 1), 12, roots=[0, 0, 2, 3])
        self.assertEqual(names, [
            (0,), (1,), (2,), (0, 0), (1, 0), (3,), (0, 1), (1, 1), (0, 2), (1, 2), (2, 0), (0, 0, 0)])
        self.assertEqual([place_of(Machine.of(2, 1), name, roots=[0, 0, 2, 3]) for name in names], list(range(12)))
        self.assertEqual([name_at(Machine.of(2, 1), x, roots=[0, 0, 2, 3]) for x in range(12)], names)

    def test_place_is_counted_among_the_same_turns(self):
        machine = Machine.of(3, 2)
        self.assertEqual(place_of(machine, (0, 1, 1), turns=2), 7)
        self.assertEqual(place_of(machine, (0, 1, 1)), 10)
        self.assertEqual(name_at(machine, 7, turns=2), (0, 1, 1))

    def test_sender_and_lesser_last_item_come_first(self):
        for letter, gap in [(3, 2), (1, 9), (9, 1), (BILLION, 1)]:
            machine = Machine.of(letter, gap)
            for number in (5, 77, 10 ** 6 + 1, 10 ** 20):
                if reach_is_enough(machine, number):
                    name = name_at(machine, number)
                    self.assertLess(place_of(machine, name[:-1]), number)
                    if name[-1] > 0:
                        self.assertLess(place_of(machine, name[:-1] + (name[-1] - 1,)), number)

    def test_first_names_are_a_whole_tree(self):
        for letter, gap, turns, roots in [(3, 2, None, (0,)), (1, 9, 2, (0,)), (9, 1, 4, [0, 0, 5]), (1, 1, 1, (2, 8))]:
            machine = Machine.of(letter, gap)
            names = first_names(machine, 40, turns=turns, roots=roots)
            self.assertEqual(len(set(names)), 40)
            for at, name in enumerate(names):
                if len(name) > 1:
                    self.assertIn(name[:-1], names[:at])
                    if name[-1] > 0:
                        self.assertIn(name[:-1] + (name[-1] - 1,), names[:at])
                wanted = least_time(machine, at + 1, turns=turns, roots=roots)
                self.assertEqual(known_at(machine, name, turns=turns, roots=roots), wanted)


def reach_is_enough(machine, number):
    """Tell whether the name with this number is known before the horizon."""
    try:
        least_time(machine, number + 1)
    except LimitExceeded:
        return False
    return True


class GreatTrees(TellCase):

    def test_inverse(self):
        numbers = [0, 1, 2, 99, 10 ** 6, 10 ** 9 + 8, 10 ** 15, 10 ** 20 + 1, 10 ** 29, MOST_NUMBER - 1, MOST_NUMBER]
        for letter, gap in [(1, 1), (3, 2), (BILLION, 1), (BILLION, 999), (10 ** 5, 17), (17, 10), (5, 6)]:
            machine = Machine.of(letter, gap)
            for turns in (None, 1, 2, 20, TURNS_TOP):
                for roots in [(0,), [0, 0], [0, 1, 1, 4, 100, 100]]:
                    for number in numbers:
                        self.check_inverse(machine, number, turns, roots)

    def check_inverse(self, machine, number, turns, roots):
        where = (machine.letter, machine.gap, number, turns, roots)
        try:
            time = least_time(machine, number + 1, turns=turns, roots=roots)
        except LimitExceeded:
            self.assert_raises(LimitExceeded("time"), name_at, machine, number, turns=turns, roots=roots)
            return
        name = name_at(machine, number, turns=turns, roots=roots)
        self.assertTrue(is_name(name, turns=turns, roots=roots), where)
        self.assertEqual(known_at(machine, name, turns=turns, roots=roots), time, where)
        self.assertEqual(place_of(machine, name, turns=turns, roots=roots), number, where)

    def test_neighbours_stand_in_order(self):
        for letter, gap, turns in [(1, 1, None), (3, 2, None), (3, 2, 3), (BILLION, 1, None), (10, 7, 5)]:
            machine = Machine.of(letter, gap)
            for base in (100, 10 ** 5, 10 ** 9 + 3):
                names = [name_at(machine, base + x, turns=turns) for x in range(40)]
                keys = [(known_at(machine, name, turns=turns), len(name), name) for name in names]
                self.assertEqual(keys, sorted(keys))
                self.assertEqual(len(set(keys)), 40)

    def test_places_by_counting(self):
        cases = [
            (1, 1, None, (0,), (0, 3, 0, 12, 5, 0, 0, 7, 1)), (3, 2, None, [0, 0, 1], (1, 30, 2, 0, 0, 9)),
            (3, 2, 4, [0, 0, 1], (2, 3, 3, 3, 0, 0, 3, 1, 2, 3)), (7, 1, 3, (0,), (0, 2, 2, 0, 1, 2, 2, 0)),
            (2, 9, None, (1, 5, 5), (2, 1, 0, 0, 4, 0, 0, 1)), (5, 3, 2, (0,), (0,) + (1, 0, 1, 1) * 6),
            (1, 1, None, (0,), (0,) + (1, 0, 2) * 16), (4, 1, 10, [0] * 6, (5, 9, 9, 9, 0, 9)),
        ]
        for letter, gap, turns, roots, name in cases:
            machine = Machine.of(letter, gap)
            place = counted_place(letter, gap, turns, roots, name)
            self.assertEqual(place_of(machine, name, turns=turns, roots=roots), place, name)
            self.assertEqual(name_at(machine, place, turns=turns, roots=roots), name)

    def test_scaled_machines(self):
        small = Machine.of(5, 3)
        great = small * 10 ** 8
        for turns in (None, 3):
            for number in (0, 1, 5, 60, 10 ** 5, 10 ** 8):
                name = name_at(small, number, turns=turns)
                self.assertEqual(name_at(great, number, turns=turns), name)
                self.assertEqual(place_of(great, name, turns=turns), number)
            self.assertEqual(first_names(great, 100, turns=turns), first_names(small, 100, turns=turns))

    def test_great_letter(self):
        for turns in (None, TURNS_TOP):
            machine = Machine.of(BILLION, 1)
            for i in (0, 1, 77, BILLION - 1):
                self.assertEqual(place_of(machine, (0, i), turns=turns), i + 1)
                self.assertEqual(name_at(machine, i + 1, turns=turns), (0, i))
            for i in (0, 1, 77, BILLION - 1):
                # Before 2 * D + i: the root, D + i of depth 1, and all of depth 2 with lesser sums.
                place = 1 + BILLION + i + i * (i + 1) // 2
                self.assertEqual(place_of(machine, (0, BILLION + i), turns=turns), place)
                self.assertEqual(name_at(machine, place, turns=turns), (0, BILLION + i))
                for a in (0, i // 3, i):
                    self.assertEqual(place_of(machine, (0, a, i - a), turns=turns), place + 1 + a)
                    self.assertEqual(name_at(machine, place + 1 + a, turns=turns), (0, a, i - a))

    def test_great_letter_with_two_turns(self):
        machine = Machine.of(BILLION, 1)
        names = [(0,), (0, 0), (0, 1), (0, 0, 0), (0, 0, 1), (0, 1, 0), (0, 1, 1), (0, 0, 0, 0)]
        self.assertEqual(first_names(machine, 8, turns=2), names)
        self.assertEqual([name_at(machine, x, turns=2) for x in range(8)], names)
        # Only the first name of depth 40 is known at the horizon.
        self.assertEqual(name_at(machine, 2 ** 40 - 1, turns=2), (0,) + (0,) * 40)
        self.assertEqual(name_at(machine, 2 ** 40 - 2, turns=2), (0,) + (1,) * 39)
        self.assert_raises(LimitExceeded("time"), name_at, machine, 2 ** 40, turns=2)

    def test_great_gap(self):
        machine = Machine.of(1, BILLION)
        for turns in (None, 1, 2, TURNS_TOP):
            most = horizon(1, turns)
            for k in (0, 1, 2, 39, 40, 41, 119, 120, 121):
                name = (0,) + (0,) * k
                if k <= most:
                    self.assertEqual(place_of(machine, name, turns=turns), k)
                    self.assertEqual(name_at(machine, k, turns=turns), name)
                else:
                    self.assert_raises(LimitExceeded("time"), place_of, machine, name, turns=turns)
                    self.assert_raises(LimitExceeded("time"), name_at, machine, k, turns=turns)
            self.assert_raises(LimitExceeded("time"), name_at, machine, MOST_NUMBER, turns=turns)


class PlaceLimits(TellCase):

    def test_behind_the_horizon(self):
        machine = Machine.of(3, 2)
        self.assertEqual(known_at(machine, (0, 178, 0)), 362)
        self.assert_raises(LimitExceeded("time"), place_of, machine, (0, 178, 0))
        self.assertEqual(known_at(machine, (0,) + (0,) * 120), 360)
        self.assertEqual(known_at(machine, (0, 177, 0)), 360)
        self.assert_raises(LimitExceeded("time"), place_of, Machine.of(1, 1), (0,), roots=[121])
        self.assert_raises(LimitExceeded("time"), place_of, Machine.of(1, 1), (0,), turns=4, roots=[41])
        self.assertEqual(place_of(Machine.of(1, 1), (0,), turns=4, roots=[40]), 0)
        self.assertEqual(place_of(Machine.of(1, 1), (0,), roots=[120]), 0)

    def test_just_at_the_horizon(self):
        self.assertEqual(place_of(Machine.of(1, 1), (0,) + (0,) * 120), 2 ** 120 - 1)
        self.assert_raises(LimitExceeded("time"), place_of, Machine.of(1, 1), (0,) + (0,) * 121)
        self.assert_raises(LimitExceeded("time"), place_of, Machine.of(1, 1), (0, 119, 0))
        self.assertEqual(place_of(Machine.of(1, 1), (0, 119)), 2 ** 119)
        self.assertEqual(place_of(Machine.of(1, 1), (0,) * 41, turns=40), 2 ** 40 - 1)
        self.assert_raises(LimitExceeded("time"), place_of, Machine.of(1, 1), (0,) * 42, turns=40)

    def test_count_at_the_limit(self):
        # Of the names known one behind FULL_TIME, those of depth 1 come first, root by root.
        machine = Machine.of(BILLION, 1)
        self.assertEqual(reach(machine, FULL_TIME, roots=FULL_ROOTS), 10 ** 40)
        at = FULL_TIME + 1 - BILLION
        for turns in (None, TURNS_TOP):
            self.assertEqual(place_of(machine, (0, at), turns=turns, roots=FULL_ROOTS), 10 ** 40)
            second = (1, at - FULL_ROOTS[1])
            self.assert_raises(LimitExceeded("count"), place_of, machine, second, turns=turns, roots=FULL_ROOTS)
            before = reach(machine, FULL_TIME - 1, turns=turns, roots=FULL_ROOTS)
            self.assertEqual(place_of(machine, (0, at - 1), turns=turns, roots=FULL_ROOTS), before)

    def test_one_root_more_at_the_limit(self):
        machine = Machine.of(BILLION, 1)
        name = (0, FULL_TIME + 1 - BILLION)
        self.assert_raises(LimitExceeded("count"), place_of, machine, name, roots=FULL_ROOTS + [FULL_TIME])
        roots = FULL_ROOTS[:4] + [4199302010, FULL_TIME]
        self.assertEqual(place_of(machine, name, roots=roots), 10 ** 40)
        self.assertEqual(place_of(machine, name, roots=roots[:5]), 10 ** 40 - 1)

    def test_time_comes_before_count(self):
        machine = Machine.of(BILLION, 1)
        self.assert_raises(LimitExceeded("count"), place_of, machine, (0,) * 101)
        self.assert_raises(LimitExceeded("count"), place_of, machine, (0,) * 121)
        self.assert_raises(LimitExceeded("time"), place_of, machine, (0,) * 122)
        self.assert_raises(LimitExceeded("time"), place_of, machine, (0,) * 200)
        self.assert_raises(LimitExceeded("count"), place_of, machine, (0, 119 * BILLION))
        self.assert_raises(LimitExceeded("time"), place_of, machine, (0, 119 * BILLION + 1))
        self.assert_raises(LimitExceeded("time"), place_of, machine, (0, MOST_ITEM))
        self.assert_raises(LimitExceeded("count"), place_of, machine, (0, 39 * BILLION), turns=TURNS_TOP)
        self.assert_raises(LimitExceeded("time"), place_of, machine, (0, 39 * BILLION + 1), turns=TURNS_TOP)


class NameAtLimits(TellCase):

    def test_wrong_numbers(self):
        machine = Machine.of(1, 1)
        for wrong in NO_INTEGERS + [None, -1, MOST_NUMBER + 1, 10 ** 40]:
            self.assert_raises(InvalidCount(), name_at, machine, wrong)
            self.assert_raises(InvalidCount(), name_at, machine, wrong, turns=1, roots=[10 ** 12])

    def test_least_and_greatest_number(self):
        machine = Machine.of(1, 1)
        self.assertEqual(name_at(machine, 0), (0,))
        self.assertEqual(place_of(machine, name_at(machine, MOST_NUMBER)), MOST_NUMBER)
        self.assertEqual(known_at(machine, name_at(machine, MOST_NUMBER)), 100)

    def test_time_limit(self):
        for letter, gap, turns, roots in [(1, BILLION, None, (0,)), (1, 40, 2, [0, 0]), (3, 2, 1, [0, 5]), (2, 9, 2, (0,))]:
            machine = Machine.of(letter, gap)
            many = reach(machine, horizon(letter, turns), turns=turns, roots=roots)
            last = name_at(machine, many - 1, turns=turns, roots=roots)
            self.assertEqual(place_of(machine, last, turns=turns, roots=roots), many - 1)
            self.assert_raises(LimitExceeded("time"), name_at, machine, many, turns=turns, roots=roots)


class FirstNames(TellCase):

    def test_one_and_a_hundred(self):
        for letter, gap in [(1, 1), (3, 2), (BILLION, 1), (1, BILLION)]:
            machine = Machine.of(letter, gap)
            self.assertEqual(first_names(machine, 1), [(0,)])
            names = first_names(machine, 100)
            self.assertEqual(names, [name_at(machine, x) for x in range(100)])
        self.assertEqual(first_names(Machine.of(BILLION, 1), 100), [(0,)] + [(0, i) for i in range(99)])
        self.assertEqual(first_names(Machine.of(1, BILLION), 100), [(0,) * (k + 1) for k in range(100)])

    def test_turns(self):
        self.assertEqual(first_names(Machine.of(BILLION, 1), 41, turns=1), [(0,) * (k + 1) for k in range(41)])
        names = first_names(Machine.of(10, 1), 100, turns=3)
        self.assertEqual(names[:5], [(0,), (0, 0), (0, 1), (0, 2), (0, 0, 0)])
        self.assertEqual(max(max(name) for name in names), 2)

    def test_wrong_counts(self):
        for wrong in NO_INTEGERS + [None, 0, -1, 101, 10 ** 30]:
            self.assert_raises(InvalidCount(), first_names, Machine.of(3, 2), wrong)
            self.assert_raises(InvalidCount(), first_names, Machine.of(3, 2), wrong, roots=[10 ** 12])

    def test_behind_the_horizon(self):
        machine = Machine.of(1, BILLION)
        for turns in (1, 2, TURNS_TOP):
            self.assertEqual(len(first_names(machine, 41, turns=turns)), 41)
            self.assert_raises(LimitExceeded("time"), first_names, machine, 42, turns=turns)
        self.assertEqual(len(first_names(machine, 100)), 100)
        self.assertEqual(first_names(machine, 2, roots=[119]), [(0,), (0, 0)])
        self.assert_raises(LimitExceeded("time"), first_names, machine, 3, roots=[119])
        self.assert_raises(LimitExceeded("time"), first_names, machine, 1, roots=[121])
        self.assertEqual(first_names(machine, 1, roots=[120]), [(0,)])

    def test_a_new_list_on_each_call(self):
        machine = Machine.of(3, 2)
        names = first_names(machine, 7)
        names.clear()
        again = first_names(machine, 7)
        self.assertEqual(len(again), 7)
        again.append("x")
        self.assertEqual(len(first_names(machine, 7)), 7)


class NamesUntil(TellCase):

    def test_it_is_a_generator(self):
        self.assertIsInstance(names_until(Machine.of(3, 2), 8), GeneratorType)
        yielded = []
        for name in names_until(Machine.of(3, 2), 5):
            yielded.append(name)
        self.assertEqual(yielded, [(0,), (0, 0), (0, 1)])

    def test_iterated_twice(self):
        machine = Machine.of(1, BILLION)
        for roots, t in [((0, 0, 1), 66), ([0, 0], 99)]:
            first = listed_until(machine, t, roots=roots)
            self.assertEqual(len(first), 200)
            self.assertEqual(listed_until(machine, t, roots=roots), first)
            pairs = list(zip(names_until(machine, t, roots=roots), names_until(machine, t, roots=roots)))
            self.assertEqual(pairs, list(zip(first, first)))
            once = names_until(machine, t, roots=roots)
            self.assertEqual([list(once), list(once)], [first, []])

    def test_two_hundred_and_one_more(self):
        machine = Machine.of(1, BILLION)
        self.assertEqual(len(listed_until(machine, 66, roots=[0, 0, 1])), 200)
        self.assert_raises(LimitExceeded("names"), listed_until, machine, 66, roots=[0, 0, 0])
        self.assertEqual(len(listed_until(machine, 99, roots=[0, 0])), 200)
        self.assert_raises(LimitExceeded("names"), listed_until, machine, 100, roots=[0, 0])
        self.assertEqual(len(listed_until(Machine.of(BILLION, 1), BILLION + 198)), 200)
        self.assert_raises(LimitExceeded("names"), listed_until, Machine.of(BILLION, 1), BILLION + 199)
        self.assert_raises(LimitExceeded("names"), listed_until, Machine.of(BILLION, 1), 120 * BILLION)
        self.assert_raises(LimitExceeded("names"), listed_until, Machine.of(BILLION, 1), 40 * BILLION, turns=TURNS_TOP)

    def test_nothing_is_yielded_before_the_error(self):
        yielded = []
        with self.assertRaises(LimitExceeded):
            for name in names_until(Machine.of(1, 1), 8):
                yielded.append(name)
        self.assertEqual(yielded, [])

    def test_twice_with_too_many(self):
        for _ in range(2):
            self.assert_raises(LimitExceeded("names"), listed_until, Machine.of(1, 1), 8)

    def test_no_names(self):
        self.assertEqual(listed_until(Machine.of(3, 2), 4, roots=[5, 6]), [])
        self.assertEqual(listed_until(Machine.of(3, 2), 360, roots=[10 ** 12]), [])
        self.assertEqual(listed_until(Machine.of(3, 2), 5, roots=[5, 6]), [(0,)])

    def test_times(self):
        machine = Machine.of(1, BILLION)
        self.assertEqual(listed_until(machine, 0), [(0,)])
        self.assertEqual(len(listed_until(machine, 120)), 121)
        self.assertEqual(len(listed_until(machine, 40, turns=1)), 41)
        for wrong in NO_INTEGERS + [None, -1, 121, 10 ** 40]:
            self.assert_raises(InvalidTime(), listed_until, machine, wrong)
        for wrong in NO_INTEGERS + [None, -1, 41, 120]:
            self.assert_raises(InvalidTime(), listed_until, machine, wrong, turns=1)
        self.assert_raises(InvalidTime(), listed_until, Machine.of(1, 1), 121)

    def test_as_many_as_reach_says(self):
        for letter, gap, turns in [(3, 2, None), (7, 3, 2), (2, 9, None)]:
            machine = Machine.of(letter, gap)
            for t in range(20):
                many = reach(machine, t, turns=turns, roots=[0, 1])
                if many <= 200:
                    self.assertEqual(len(listed_until(machine, t, turns=turns, roots=[0, 1])), many)
                    times = [known_at(machine, name, roots=[0, 1]) for name in listed_until(
                        machine, t, turns=turns, roots=[0, 1])]
                    self.assertEqual(times.count(t), layer(machine, t, turns=turns, roots=[0, 1]))


class TurnsAndRoots(TellCase):
    """Point 8, for each function of names."""

    def calls(self):
        machine = Machine.of(3, 2)
        return [
            (known_at, machine, (0,)), (place_of, machine, (0,)), (name_at, machine, 5), (first_names, machine, 5),
            (listed_until, machine, 5),
        ]

    def test_right_ones(self):
        for function, machine, what in self.calls():
            for turns in (None, 1, TURNS_TOP):
                for roots in ((0,), [0] * 6, [0, 10 ** 12]):
                    function(machine, what, turns=turns, roots=roots)

    def test_wrong_turns(self):
        for function, machine, what in self.calls():
            for wrong in NO_INTEGERS + [0, -1, TURNS_TOP + 1]:
                self.assert_raises(InvalidTurns(), function, machine, what, turns=wrong)

    def test_wrong_roots(self):
        for function, machine, what in self.calls():
            for wrong, at in [((), -1), ([0] * 7, -1), (None, -1), ("0", -1), ({0: 1}, -1), ([-1], 0), ([2, 1], 1),
                              ([0, 10 ** 12 + 1], 1), ([0, True], 1), ((0, 1, 2, 3, 4, None), 5)]:
                self.assert_raises(InvalidRoots(at), function, machine, what, roots=wrong)


if __name__ == "__main__":
    unittest.main()
