"""What holds everywhere: points 2 to 4, 7, and the interface."""

import inspect
import time
import unittest

from tellontree import counts, machines, names
from tellontree.errors import (
    InvalidCount, InvalidName, InvalidRoots, InvalidTime, InvalidTurns, LimitExceeded)
from tellontree.machines import Machine
from tests.helper import NO_INTEGERS, TellCase, horizon, listed_until

BILLION = 10 ** 9
TURNS_TOP = 10 ** 12

# The arguments before the bare *, for each function of these two modules.
PLAIN = {
    "reach": ["machine", "t"], "layer": ["machine", "t"], "next_time": ["machine", "t"], "least_time": ["machine", "n"],
    "fewest_turns": ["machine", "n"], "is_name": ["thing"], "known_at": ["machine", "name"],
    "name_at": ["machine", "number"], "place_of": ["machine", "name"], "first_names": ["machine", "n"],
    "names_until": ["machine", "t"],
}

COUNTS = ["reach", "layer", "next_time", "least_time", "fewest_turns"]
NAMES = ["is_name", "known_at", "name_at", "place_of", "first_names", "names_until"]


def function_called(word):
    """Return the function of the interface with this name; names_until as one that lists."""
    if word == "names_until":
        return listed_until
    return getattr(counts if word in COUNTS else names, word)


def right_arguments(word):
    """Return arguments by name that the function takes without an error."""
    values = {"machine": Machine.of(3, 2), "t": 8, "n": 7, "number": 6, "thing": (0, 1), "name": (0, 1)}
    given = {name: values[name] for name in PLAIN[word]}
    if word != "fewest_turns":
        given["turns"] = 2
        given["roots"] = [0, 0, 1]
    return given


class Interface(unittest.TestCase):

    def test_functions_stand_in_their_files(self):
        for word in COUNTS:
            self.assertEqual(getattr(counts, word).__module__, "tellontree.counts")
        for word in NAMES:
            self.assertEqual(getattr(names, word).__module__, "tellontree.names")
        self.assertEqual(machines.Machine.__module__, "tellontree.machines")
        for method in ("__init__", "of", "__mul__", "__eq__"):
            self.assertIn(method, vars(machines.Machine))

    def test_arguments_and_defaults(self):
        for word in COUNTS + NAMES:
            parameters = inspect.signature(getattr(counts if word in COUNTS else names, word)).parameters
            plain = [name for name in parameters if parameters[name].kind == inspect.Parameter.POSITIONAL_OR_KEYWORD]
            by_name = {name: parameters[name].default for name in parameters if name not in plain}
            with self.subTest(word):
                self.assertEqual(plain, PLAIN[word])
                self.assertEqual(by_name, {} if word == "fewest_turns" else {"turns": None, "roots": (0,)})
                for name in plain:
                    self.assertIs(parameters[name].default, inspect.Parameter.empty)
                for name in by_name:
                    self.assertEqual(parameters[name].kind, inspect.Parameter.KEYWORD_ONLY)

    def test_machine_arguments(self):
        self.assertEqual(list(inspect.signature(Machine).parameters), ["o", "l", "g"])
        self.assertEqual(list(inspect.signature(Machine.of).parameters), ["letter", "gap"])


class Arguments(unittest.TestCase):

    def test_by_name_in_any_order(self):
        for word in COUNTS + NAMES:
            function = function_called(word)
            given = right_arguments(word)
            turned = {name: given[name] for name in reversed(list(given))}
            plain = [given.pop(name) for name in PLAIN[word]]
            with self.subTest(word):
                self.assertEqual(function(**turned), function(*plain, **given))

    def test_defaults(self):
        for word in COUNTS + NAMES:
            function = function_called(word)
            plain = [right_arguments(word)[name] for name in PLAIN[word]]
            with self.subTest(word):
                if word != "fewest_turns":
                    wanted = function(*plain, turns=None, roots=(0,))
                    self.assertEqual(function(*plain), wanted)
                    self.assertEqual(function(*plain, turns=None), wanted)
                    self.assertEqual(function(*plain, roots=[0]), wanted)

    def test_list_or_tuple(self):
        for word in COUNTS + NAMES:
            if word != "fewest_turns":
                given = right_arguments(word)
                listed = function_called(word)(**given)
                given["roots"] = tuple(given["roots"])
                self.assertEqual(function_called(word)(**given), listed)

    def test_nothing_that_is_handed_in_is_changed(self):
        for word in COUNTS + NAMES:
            if word != "fewest_turns":
                given = right_arguments(word)
                roots = given["roots"]
                function_called(word)(**given)
                self.assertEqual(roots, [0, 0, 1])
                if "machine" in given:
                    self.assertEqual(vars(given["machine"]), vars(Machine.of(3, 2)))

    def test_the_same_list_changed_by_its_owner(self):
        roots = [0, 5]
        for word in ("reach", "layer", "next_time", "least_time", "name_at", "first_names", "names_until"):
            given = right_arguments(word)
            given["roots"] = roots
            before = function_called(word)(**given)
            roots[1] = 1
            fresh = dict(given, roots=(0, 1))
            self.assertEqual(function_called(word)(**given), function_called(word)(**fresh))
            roots[1] = 5
            self.assertEqual(function_called(word)(**given), before)

    def test_lists_are_new(self):
        for word in ("first_names", "names_until"):
            given = right_arguments(word)
            told = function_called(word)(**given)
            copy = list(told)
            again = function_called(word)(**given)
            self.assertIsNot(told, again)
            told.reverse()
            told.append(None)
            self.assertEqual(function_called(word)(**given), copy)
            self.assertEqual(again, copy)

    def test_errors_change_nothing(self):
        roots = [3, 2, 1]
        for word in COUNTS + NAMES:
            if word != "fewest_turns":
                given = right_arguments(word)
                given["roots"] = roots
                with self.assertRaises(InvalidRoots):
                    function_called(word)(**given)
                self.assertEqual(roots, [3, 2, 1])


class OrderOfErrors(TellCase):

    WRONG = {"t": (-1, InvalidTime()), "n": (0, InvalidCount()), "number": (-1, InvalidCount()),
             "name": ((0, -1), InvalidName(1))}

    def test_turns_then_roots_then_the_others(self):
        for word in COUNTS + NAMES:
            if word == "fewest_turns":
                continue
            given = right_arguments(word)
            last = PLAIN[word][-1]
            if last in self.WRONG:
                given[last], error = self.WRONG[last]
                self.assert_raises(error, function_called(word), **given)
            else:
                given[last] = "x"
            self.assert_raises(InvalidRoots(1), function_called(word), **dict(given, roots=[1, 0]))
            self.assert_raises(InvalidRoots(-1), function_called(word), **dict(given, roots=()))
            for roots in ([0], [1, 0], ()):
                self.assert_raises(InvalidTurns(), function_called(word), **dict(given, turns=0, roots=roots))
                self.assert_raises(InvalidTurns(), function_called(word), **dict(given, turns=True, roots=roots))

    def test_roots_by_their_form_first(self):
        for word in COUNTS + NAMES:
            if word != "fewest_turns":
                given = right_arguments(word)
                self.assert_raises(InvalidRoots(-1), function_called(word), **dict(given, roots=[5, 4, -1, 0, 0, 0, 0]))
                self.assert_raises(InvalidRoots(1), function_called(word), **dict(given, roots=[5, 4, -1, "x"]))

    def test_limit_comes_last(self):
        machine = Machine.of(1, BILLION)
        late = {"roots": [10 ** 12]}
        for function, limited, wrong, error in [
                (counts.least_time, 1, 0, InvalidCount()), (names.name_at, 0, -1, InvalidCount()),
                (names.first_names, 1, 0, InvalidCount()), (names.place_of, (0,), (0, -1), InvalidName(1))]:
            self.assert_raises(LimitExceeded("time"), function, machine, limited, **late)
            self.assert_raises(error, function, machine, wrong, **late)
            self.assert_raises(InvalidTurns(), function, machine, limited, turns=0, **late)
            self.assert_raises(InvalidRoots(1), function, machine, limited, roots=[10 ** 12, 0])
        self.assert_raises(InvalidCount(), counts.fewest_turns, machine, 10 ** 30 + 1)
        self.assert_raises(LimitExceeded("time"), counts.fewest_turns, machine, 10 ** 30)

    def test_limits_of_counts_come_last(self):
        machine = Machine.of(BILLION, 1)
        end = 120 * BILLION
        for function, limit in [(counts.reach, "count"), (counts.layer, "count"), (listed_until, "names")]:
            self.assert_raises(LimitExceeded(limit), function, machine, end)
            self.assert_raises(InvalidTime(), function, machine, end + 1)
            self.assert_raises(InvalidRoots(0), function, machine, end, roots=[-1])
            self.assert_raises(InvalidTurns(), function, machine, end, turns=-1)
            self.assert_raises(InvalidTime(), function, machine, end, turns=TURNS_TOP)

    def test_no_wrong_value_raises_anything_else(self):
        machine = Machine.of(3, 2)
        for wrong in NO_INTEGERS:
            for word in ("reach", "layer", "next_time", "names_until"):
                self.assert_raises(InvalidTime(), function_called(word), machine, wrong)
            for word in ("least_time", "fewest_turns", "name_at", "first_names"):
                self.assert_raises(InvalidCount(), function_called(word), machine, wrong)


class Quickness(unittest.TestCase):

    def test_letters_and_gaps_of_all_sizes(self):
        machines_tried = [Machine.of(1, BILLION), Machine.of(BILLION, 1), Machine.of(BILLION, BILLION), Machine.of(1, 1),
                          Machine(BILLION, BILLION, 1), Machine.of(10 ** 6, 997), Machine.of(1000, 40)]
        for machine in machines_tried:
            for turns in (None, 1, 2, 12, 10 ** 6, TURNS_TOP):
                for roots in ((0,), [0, 0, 1, 10, 10, 10 ** 12]):
                    self.check_calls(machine, turns, roots)

    def check_calls(self, machine, turns, roots):
        end = horizon(machine.letter, turns)
        calls = [(word, end) for word in ("reach", "layer", "next_time", "names_until")]
        calls += [(word, end // 2) for word in ("reach", "layer", "next_time", "names_until")]
        calls += [("least_time", 10 ** 30), ("least_time", 10 ** 12), ("name_at", 10 ** 30 - 1), ("name_at", 10 ** 12)]
        calls += [("first_names", 100), ("place_of", (0,) + (0,) * 39), ("place_of", (0,) + (0,) * 119)]
        for word, what in calls:
            begin = time.monotonic()
            try:
                function_called(word)(machine, what, turns=turns, roots=roots)
            except LimitExceeded:
                pass
            # A call takes some hundredths of a second; a busy computer gets a hundred times as much.
            self.assertLess(time.monotonic() - begin, 3, (word, machine.letter, machine.gap, what, turns))


if __name__ == "__main__":
    unittest.main()
