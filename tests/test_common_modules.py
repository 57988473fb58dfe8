"""What holds everywhere, points 2 to 4, 7 and the interface: for all modules of functions from plans on."""

import copy
import inspect
import time
import unittest
from itertools import product

from tellontree import bands, gathers, letters, plans, rounds, sums, texts
from tellontree.errors import (
    InvalidCount, InvalidMachine, InvalidNames, InvalidPlan, InvalidRows, InvalidText, InvalidTime, InvalidTurns,
    LimitExceeded, NothingLeft)
from tellontree.machines import Machine
from tests.helper import TellCase

BILLION = 10 ** 9

SIGNATURES = {
    plans: {
        "fault": "(machine, n, thing)", "ends": "(machine, n, plan)", "names_of": "(machine, n, plan)",
        "earliest": "(machine, n, plan)", "latest": "(machine, n, plan, *, until)", "plan_of": "(machine, names)",
        "best_plan": "(machine, n, *, turns=None)",
    },
    gathers: {
        "gather_fault": "(machine, n, thing)", "gather_ends": "(machine, n, rows)",
        "heard": "(machine, n, rows, hand, time)", "turned_plan": "(machine, n, plan)",
        "turned_gather": "(machine, n, rows)", "best_gather": "(machine, n)",
    },
    letters: {
        "letters_fault": "(machine, n, sources, thing)", "letters_ends": "(machine, n, sources, rows)",
        "known_letters": "(machine, n, sources, rows, hand, time)", "doing": "(machine, n, sources, rows, hand, time)",
        "bounds": "(machine, n, k)", "letters_plan": "(machine, n, k)",
    },
    rounds: {
        "round_plan": "(machine, n, *, period=None)", "least_period": "(machine, n)", "everybody": "(machine, n)",
    },
    bands: {
        "bands": "(n)", "band_of": "(machine, n)", "explains": "(rows, letter, gap)", "told_back": "(rows)",
    },
    sums: {
        "sum_fault": "(machine, n, time, thing)", "sum_ends": "(machine, n, thing)",
        "most_summed": "(machine, n, time)", "sum_plan": "(machine, n, time)",
        "least_sum_time": "(machine, n, count)", "least_summers": "(machine, time, count)", "slower": "(machine)",
    },
    texts: {
        "write_sheet": "(machine, n, rows, *, sources=None)", "read_sheet": "(text)", "write_sightings": "(rows)",
        "read_sightings": "(text)",
    },
}

FUNCTIONS = {word: getattr(module, word) for module in SIGNATURES for word in SIGNATURES[module]}

PLAN = [(0, 1, 0), (0, 2, 2), (1, 3, 5)]
GATHER = [(1, 2, 0), (2, 0, 4), (3, 0, 1)]
SENDINGS = [(0, 0, 1, 0), (0, 1, 2, 4), (1, 0, 1, 2), (1, 1, 2, 6)]
SHARED = {"n": 3, "sources": [0, 0], "rows": SENDINGS, "hand": 1, "time": 4}
SUM = ([(1, 0, 3)], [7, 4])
SEEN = [((0, 2, 0), 12), ((0,), 0), ((0, 1), 6)]
SHEET = "machine 1 2 2\nhands 3\nsource 1\nsend 0 1 2 7\n"

# Arguments that each function takes without an error, behind the machine and in their order.
RIGHT = {
    "fault": {"n": 4, "thing": PLAN}, "ends": {"n": 4, "plan": PLAN}, "names_of": {"n": 4, "plan": PLAN},
    "earliest": {"n": 4, "plan": PLAN}, "latest": {"n": 4, "plan": PLAN, "until": 30},
    "plan_of": {"names": [(0,), (0, 1), (0, 0)]}, "best_plan": {"n": 4, "turns": 2},
    "gather_fault": {"n": 4, "thing": GATHER}, "gather_ends": {"n": 4, "rows": GATHER},
    "heard": {"n": 4, "rows": GATHER, "hand": 2, "time": 4}, "turned_plan": {"n": 4, "plan": PLAN},
    "turned_gather": {"n": 4, "rows": GATHER}, "best_gather": {"n": 4},
    "letters_fault": {"n": 3, "sources": [0, 0], "thing": SENDINGS},
    "letters_ends": {"n": 3, "sources": [0, 0], "rows": SENDINGS}, "known_letters": SHARED, "doing": SHARED,
    "bounds": {"n": 3, "k": 2}, "letters_plan": {"n": 3, "k": 2},
    "round_plan": {"n": 3, "period": 5}, "least_period": {"n": 3}, "everybody": {"n": 3},
    "bands": {"n": 4}, "band_of": {"n": 4}, "explains": {"rows": SEEN, "letter": 4, "gap": 2},
    "told_back": {"rows": SEEN},
    "sum_fault": {"n": 2, "time": 8, "thing": SUM}, "sum_ends": {"n": 2, "thing": SUM},
    "most_summed": {"n": 2, "time": 8}, "sum_plan": {"n": 2, "time": 8}, "least_sum_time": {"n": 2, "count": 11},
    "least_summers": {"time": 8, "count": 11}, "slower": {},
    "write_sheet": {"n": 3, "rows": SENDINGS, "sources": [0, 0]}, "read_sheet": {"text": SHEET},
    "write_sightings": {"rows": SEEN}, "read_sightings": {"text": "seen 0.2.0 11\nseen 0 0\n"},
}

LISTS = ["names_of", "earliest", "latest", "plan_of", "best_plan", "heard", "turned_plan", "turned_gather",
         "best_gather", "letters_ends", "known_letters", "letters_plan", "round_plan", "bands", "read_sightings"]

# The kinds of what the functions return that return no list.
KINDS = {
    "ends": int, "gather_ends": int, "least_period": int, "bounds": tuple, "everybody": tuple, "doing": tuple,
    "fault": type(None), "gather_fault": type(None), "letters_fault": type(None), "band_of": tuple, "explains": bool,
    "told_back": tuple, "sum_fault": type(None), "sum_ends": int, "most_summed": int, "sum_plan": tuple,
    "least_sum_time": int, "least_summers": int, "slower": Machine, "write_sheet": str, "read_sheet": tuple,
    "write_sightings": str,
}

WRONG_N = ("n", 0, InvalidCount())
WRONG_PLAN = ("plan", [(0, 1, 0), (0, 1, 9)], InvalidPlan("again", 1))
WRONG_GATHER = ("rows", [(0, 1, 0)], InvalidPlan("hand", 0))
WRONG_SOURCES = ("sources", [0, 3], InvalidRows(1))
WRONG_SENDINGS = ("rows", [(0, 0, 1, 0), (2, 0, 1, 0)], InvalidPlan("letter", 1))
WRONG_SEEN = ("rows", [((0,), 0), ((1,), 0)], InvalidRows(1))
WRONG_TIME = ("time", -1, InvalidTime())
WRONG_COUNT = ("count", 0, InvalidCount())

# What each function may find wrong, in the order in which it must be told.
WRONG = {
    "fault": [WRONG_N], "ends": [WRONG_N, WRONG_PLAN], "names_of": [WRONG_N, WRONG_PLAN],
    "earliest": [WRONG_N, WRONG_PLAN], "latest": [WRONG_N, WRONG_PLAN, ("until", -1, InvalidTime())],
    "plan_of": [("names", [(0,), None], InvalidNames(1))],
    "best_plan": [("turns", 0, InvalidTurns()), WRONG_N],
    "gather_fault": [WRONG_N], "gather_ends": [WRONG_N, WRONG_GATHER], "heard": [WRONG_N, WRONG_GATHER],
    "turned_plan": [WRONG_N, WRONG_PLAN], "turned_gather": [WRONG_N, WRONG_GATHER], "best_gather": [WRONG_N],
    "letters_fault": [WRONG_N, WRONG_SOURCES], "letters_ends": [WRONG_N, WRONG_SOURCES, WRONG_SENDINGS],
    "known_letters": [WRONG_N, WRONG_SOURCES, WRONG_SENDINGS], "doing": [WRONG_N, WRONG_SOURCES, WRONG_SENDINGS],
    "bounds": [WRONG_N, ("k", 0, InvalidCount())], "letters_plan": [WRONG_N, ("k", 41, InvalidCount())],
    "round_plan": [WRONG_N, ("period", 0, InvalidTime())], "least_period": [WRONG_N], "everybody": [WRONG_N],
    "bands": [WRONG_N], "band_of": [WRONG_N], "told_back": [WRONG_SEEN],
    "explains": [WRONG_SEEN, ("letter", 0, InvalidMachine("letter")), ("gap", 0, InvalidMachine("gap"))],
    "sum_fault": [WRONG_N, WRONG_TIME], "most_summed": [WRONG_N, WRONG_TIME], "sum_plan": [WRONG_N, WRONG_TIME],
    "sum_ends": [WRONG_N, ("thing", ([], [1, 1]), InvalidPlan("nobody", 1))],
    "least_sum_time": [WRONG_N, WRONG_COUNT], "least_summers": [WRONG_TIME, WRONG_COUNT],
    "slower": [("machine", Machine(BILLION, 0, 1), InvalidMachine("letter"))],
    "write_sheet": [WRONG_N, WRONG_SOURCES, WRONG_SENDINGS], "read_sheet": [("text", b"", InvalidText(0))],
    "write_sightings": [WRONG_SEEN], "read_sightings": [("text", "seen 0 1", InvalidText(1))],
}


def right_arguments(word):
    """Return arguments by name, the lists among them new ones."""
    given = copy.deepcopy(RIGHT[word])
    if "machine" in inspect.signature(FUNCTIONS[word]).parameters:
        return dict(machine=Machine(1, 2, 2), **given)
    return given


def keyword_only(word):
    """Return the names of the arguments behind the bare * of the function."""
    parameters = inspect.signature(FUNCTIONS[word]).parameters
    return [name for name in parameters if parameters[name].kind == inspect.Parameter.KEYWORD_ONLY]


def as_tuples(given):
    """Return the same arguments with tuples in place of lists."""
    return {name: tuple(value) if isinstance(value, list) else value for name, value in given.items()}


class Interface(unittest.TestCase):

    def test_functions_stand_in_their_files(self):
        for module, signatures in SIGNATURES.items():
            for word in signatures:
                self.assertEqual(getattr(module, word).__module__, module.__name__)
                self.assertTrue(inspect.isfunction(getattr(module, word)))

    def test_arguments_and_defaults(self):
        for signatures in SIGNATURES.values():
            for word, signature in signatures.items():
                self.assertEqual(str(inspect.signature(FUNCTIONS[word])), signature)

    def test_kinds_of_values(self):
        for word in RIGHT:
            self.assertIs(type(FUNCTIONS[word](**right_arguments(word))), KINDS.get(word, list), word)
        for word in ("fault", "gather_fault"):
            self.assertEqual(FUNCTIONS[word](Machine(1, 2, 2), 3, None), ("form", -1))

    def test_rows_are_tuples(self):
        for word in ("earliest", "latest", "plan_of", "best_plan", "turned_plan", "turned_gather", "best_gather",
                     "letters_plan", "round_plan", "names_of"):
            for row in FUNCTIONS[word](**right_arguments(word)):
                self.assertIs(type(row), tuple)
                self.assertEqual([type(item) for item in row], [int] * len(row))


class Arguments(TellCase):

    def test_by_name_in_any_order(self):
        for word in RIGHT:
            given = right_arguments(word)
            turned = {name: given[name] for name in reversed(list(given))}
            named = {name: given.pop(name) for name in keyword_only(word) if name in given}
            plain = list(given.values())
            with self.subTest(word):
                self.assertEqual(FUNCTIONS[word](**turned), FUNCTIONS[word](*plain, **named))
                half = dict(list(given.items())[1:], **named)
                self.assertEqual(FUNCTIONS[word](plain[0], **half), FUNCTIONS[word](*plain, **named))

    def test_defaults(self):
        machine = Machine(2, 1, 1)
        self.assertEqual(plans.best_plan(machine, 9), plans.best_plan(machine, 9, turns=None))
        self.assertEqual(rounds.round_plan(machine, 9), rounds.round_plan(machine, 9, period=None))
        self.assertNotEqual(rounds.round_plan(machine, 9), rounds.round_plan(machine, 9, period=1))
        self.assertNotEqual(plans.best_plan(machine, 9), plans.best_plan(machine, 9, turns=1))
        self.assertEqual(texts.write_sheet(machine, 9, []), texts.write_sheet(machine, 9, [], sources=None))
        self.assertNotEqual(texts.write_sheet(machine, 9, []), texts.write_sheet(machine, 9, [], sources=[8]))

    def test_until_must_be_given(self):
        self.assertIs(inspect.signature(plans.latest).parameters["until"].default, inspect.Parameter.empty)

    def test_list_or_tuple(self):
        for word in RIGHT:
            given = right_arguments(word)
            self.assertEqual(FUNCTIONS[word](**as_tuples(given)), FUNCTIONS[word](**given), word)

    def test_nothing_that_is_handed_in_is_changed(self):
        for word in RIGHT:
            given = right_arguments(word)
            FUNCTIONS[word](**given)
            self.assertEqual(given, right_arguments(word), word)
            if "machine" in given:
                self.assertEqual(vars(given["machine"]), vars(Machine(1, 2, 2)))

    def test_errors_change_nothing(self):
        for word, wrongs in WRONG.items():
            for name, value, error in wrongs:
                given = dict(right_arguments(word), **{name: copy.deepcopy(value)})
                self.assert_raises(error, FUNCTIONS[word], **given)
                self.assertEqual(given, dict(right_arguments(word), **{name: value}))

    def test_lists_are_new(self):
        for word in LISTS:
            given = right_arguments(word)
            told = FUNCTIONS[word](**given)
            wanted = list(told)
            for value in given.values():
                self.assertIsNot(told, value)
            again = FUNCTIONS[word](**given)
            self.assertIsNot(told, again)
            told.reverse()
            told.append(None)
            self.assertEqual(again, wanted)
            self.assertEqual(FUNCTIONS[word](**given), wanted)

    def test_lists_in_tuples_are_new(self):
        for word in ("sum_plan", "read_sheet"):
            given = right_arguments(word)
            wanted = copy.deepcopy(FUNCTIONS[word](**given))
            told = FUNCTIONS[word](**given)
            for part in told:
                if isinstance(part, list):
                    part.append(None)
            self.assertEqual(FUNCTIONS[word](**given), wanted)

    def test_earliest_of_an_early_plan_is_a_new_list(self):
        machine = Machine(1, 2, 2)
        rows = plans.best_plan(machine, 4)
        self.assertEqual(plans.earliest(machine, 4, rows), rows)
        self.assertIsNot(plans.earliest(machine, 4, rows), rows)


class OrderOfErrors(TellCase):

    def test_each_set_of_wrong_arguments(self):
        for word, wrongs in WRONG.items():
            for chosen in product((False, True), repeat=len(wrongs)):
                some = [wrong for wrong, used in zip(wrongs, chosen) if used]
                given = right_arguments(word)
                for name, value, _ in some:
                    given[name] = value
                with self.subTest((word, some)):
                    if some:
                        self.assert_raises(some[0][2], FUNCTIONS[word], **given)
                    else:
                        FUNCTIONS[word](**given)

    def test_limits_and_nothing_left_come_last(self):
        machine = Machine(1, 2, 2)
        self.assert_raises(NothingLeft("time"), plans.latest, machine, 4, PLAN, until=0)
        self.assert_raises(InvalidPlan("nobody", 1), plans.latest, machine, 4, [], until=0)
        self.assert_raises(InvalidCount(), plans.latest, machine, None, PLAN, until=0)
        self.assert_raises(LimitExceeded("time"), plans.best_plan, machine, 100, turns=1)
        self.assert_raises(InvalidCount(), plans.best_plan, machine, 101, turns=1)
        self.assert_raises(InvalidTurns(), plans.best_plan, machine, 100, turns=True)


class Quickness(unittest.TestCase):

    def test_great_machines(self):
        for o, l, g in [(BILLION, BILLION, 1), (0, BILLION, 1), (0, 1, BILLION), (BILLION, BILLION, BILLION),
                        (1, BILLION, 1), (BILLION, 0, 1), (10 ** 8 + 7, BILLION, 997), (0, BILLION, 123456789)]:
            self.check_machine(Machine(o, l, g))

    def check_machine(self, machine):
        plan = self.check(plans.best_plan, machine, 100)
        names = self.check(plans.names_of, machine, 100, plan)
        self.check(plans.plan_of, machine, names)
        self.check(plans.latest, machine, 100, plan, until=10 ** 15)
        gather = self.check(gathers.best_gather, machine, 100)
        self.check(gathers.heard, machine, 100, gather, 0, 10 ** 16)
        self.check(gathers.turned_gather, machine, 100, gather)
        self.check(letters.bounds, machine, 40, 40)
        sent = self.check(letters.letters_plan, machine, 40, 40)
        for rows in (sent, sent[::-1], [(0, 0, 1 + at % 39, at * 10 ** 11) for at in range(2000)]):
            self.check(letters.letters_fault, machine, 40, [0] * 40, rows)
        self.check(letters.letters_ends, machine, 40, [0] * 40, sent)
        self.check(letters.known_letters, machine, 40, [0] * 40, sent, 39, 10 ** 16)
        self.check(letters.doing, machine, 40, [0] * 40, sent, 39, 10 ** 16)
        rows = self.check(rounds.round_plan, machine, 40)
        self.check(letters.letters_fault, machine, 40, list(range(40)), rows)
        self.check(rounds.everybody, machine, 40)
        self.check_sums(machine)
        self.check_texts(machine, plan, sent)
        self.check(bands.band_of, machine, 20)

    def check_sums(self, machine):
        ready = self.check(sums.least_sum_time, machine, 40, 10 ** 12)
        for end in (ready, 10 ** 12):
            self.check(sums.most_summed, machine, 40, end)
            self.check(sums.least_summers, machine, end, 10 ** 12)
            thing = self.check(sums.sum_plan, machine, 40, end)
            self.check(sums.sum_fault, machine, 40, end, thing)
            self.check(sums.sum_ends, machine, 40, thing)
            rows, own = thing
            self.check(sums.sum_fault, machine, 40, end, (rows + rows * 9, own))

    def check_texts(self, machine, plan, sent):
        last = [(at % 40, at % 7, 7 + at % 33, 10 ** 15 - at) for at in range(2000)]
        for n, rows, sources in [(100, plan, None), (100, plan + plan * 3, None), (40, sent, [0] * 40),
                                 (40, last, [39] * 40)]:
            text = self.check(texts.write_sheet, machine, n, rows, sources=sources)
            self.assertEqual(self.check(texts.read_sheet, text)[1:], (n, list(rows), sources))

    def test_without_a_machine(self):
        long = [((0,) + (10 ** 15 - at,) * 199, 10 ** 20 - at) for at in range(60)]
        known = [(name, 199 + sum(name)) for name, _ in long]
        for rows in (long, known, [((0,) * (200 - at), 10 ** 20) for at in range(60)]):
            self.check(bands.told_back, rows)
            self.check(bands.explains, rows, 10 ** 20, 10 ** 20)
            self.assertEqual(self.check(texts.read_sightings, self.check(texts.write_sightings, rows)), rows)
        for n in range(2, 21):
            self.check(bands.bands, n)
        for text in ("7" * 10 ** 6, "seen " + "0." * 10 ** 6, "seen 0 1\n" * 10 ** 5, "\n" * 10 ** 6, " " * 10 ** 6,
                     "machine 1 1 1\nhands 1\n" + "tell 0 0 0 \n" * 10 ** 5):
            for read in (texts.read_sheet, texts.read_sightings):
                begin = time.monotonic()
                self.assertRaises(InvalidText, read, text)
                self.assertLess(time.monotonic() - begin, 3)

    def check(self, function, *args, **named):
        """Check that the call is quick, and return what it returns."""
        begin = time.monotonic()
        told = function(*args, **named)
        # A call takes some hundredths of a second; a busy computer gets a hundred times as much.
        self.assertLess(time.monotonic() - begin, 3, function)
        return told


if __name__ == "__main__":
    unittest.main()
