"""Sheets and texts of sightings: points 70 to 73."""

import random
import re
import unittest

from tellontree.errors import InvalidCount, InvalidPlan, InvalidRows, InvalidText
from tellontree.letters import letters_plan
from tellontree.machines import Machine
from tellontree.plans import best_plan
from tellontree.texts import read_sheet, read_sightings, write_sheet, write_sightings
from tests.helper import NO_INTEGERS, NO_LISTS, TellCase, wrong_rows, wrong_sightings

BILLION = 10 ** 9
LATEST = 10 ** 15
M = Machine(1, 2, 2)
HEAD = "machine 1 2 2\nhands 3\n"
TOLD = HEAD + "tell 0 2 0\ntell 2 1 7\n"
SENT = HEAD + "source 0\nsource 2\nsend 0 0 1 0\nsend 1 2 0 15\nsend 0 1 2 4\n"
SEEN = "seen 0.2.0 11\nseen 0 0\nseen 0.0 3\n"
NUMBER = "(0|[1-9][0-9]*)"

# What no number is written like.
NO_NUMBERS = [
    "", "-1", "+1", "01", "00", "1.0", "1,0", "1_0", "1e3", "0x1", "a", "1a", "a1", "-0", "+0", "--1", "True", "None",
    "\t1", "1\t", "'1'", "(1)", "1-", "~", "1" * 5000, "0" * 5000, "9" * 100, "0" + "1" * 4000, str(10 ** 22),
]


def plain_line(line, words):
    """Return the word and the numbers of a line of these words and numbers, or None."""
    for word, many in words:
        found = re.fullmatch(word + (" " + NUMBER) * many, line)
        if found:
            return word, tuple(int(part) if len(part) < 100 else 10 ** 99 for part in found.groups())
    return None


def is_hand_row(row, n, least):
    """Tell whether the row begins with two different hands, the second one from least on, and ends with a start."""
    sender, receiver, start = row
    return sender < n and least <= receiver < n and sender != receiver and start <= LATEST


class PlainSheet:
    """A reader of sheets that follows point 72 from line to line."""

    AT_ITS_PLACE = {
        "": [("machine", 3)], "machine": [("hands", 1)], "hands": [("source", 1), ("tell", 3)],
        "source": [("source", 1), ("send", 4)], "tell": [("tell", 3)], "send": [("send", 4)],
    }

    def __init__(self):
        self.before = ""
        self.machine = None
        self.n = None
        self.sources = []
        self.rows = []

    def read(self, line):
        """Tell whether the line may stand at its place, and keep what it tells."""
        found = plain_line(line, self.AT_ITS_PLACE[self.before])
        if found is None or not self.keep(*found):
            return False
        self.before = found[0]
        return True

    def keep(self, word, numbers):
        if word == "machine":
            o, l, g = self.machine = numbers
            return max(numbers) <= BILLION and g > 0 and o + l > 0
        if word == "hands":
            self.n, = numbers
            return 1 <= self.n <= 100
        if word == "source":
            self.sources.append(numbers[0])
            return 2 <= self.n <= 40 and len(self.sources) <= 40 and numbers[0] < self.n
        self.rows.append(numbers)
        if word == "tell":
            return len(self.rows) <= 400 and is_hand_row(numbers, self.n, 1)
        return len(self.rows) <= 2000 and numbers[0] < len(self.sources) and is_hand_row(numbers[1:], self.n, 0)


def plain_sheet(text):
    """Return what the text tells, or the number of its first wrong line."""
    sheet = PlainSheet()
    *lines, rest = text.split("\n")
    for number, line in enumerate(lines, start=1):
        if not sheet.read(line):
            return number
    if rest or len(lines) < 2:
        return len(lines) + 1
    return sheet.machine, sheet.n, sheet.rows, sheet.sources or None


def plain_sightings(text):
    """Return the sightings of the text, or the number of its first wrong line."""
    rows = []
    *lines, rest = text.split("\n")
    for number, line in enumerate(lines, start=1):
        found = re.fullmatch(f"seen ({NUMBER}([.]{NUMBER})*) {NUMBER}", line)
        if not found or number > 60:
            return number
        name = tuple(int(part[:100]) for part in found[1].split("."))
        time = int(found.groups()[-1][:100])
        if len(name) > 200 or name[0] != 0 or max(name) > LATEST or time > 10 ** 20:
            return number
        rows.append((name, time))
    return len(lines) + 1 if rest else rows


def some_machine(source):
    """Return a machine with small or great numbers."""
    o, l = source.choice([(0, 1), (1, 2), (BILLION, BILLION), (BILLION, 0), (0, BILLION), (17, 305)])
    return Machine(o, l, source.choice([1, 2, 12345, BILLION]))


def some_hands(source, n, least):
    """Return two different hands, the second one from least on."""
    receiver = source.randint(least, n - 1)
    return source.choice([hand for hand in range(n) if hand != receiver]), receiver


def some_start(source):
    """Return a start of any size."""
    return source.choice([0, 1, 9, 10, LATEST, source.randint(0, 10 ** source.randint(1, 15))])


def some_sheet(source):
    """Return arguments by name of a sheet that can be written."""
    machine = some_machine(source)
    many = source.choice([0, 1, 2, 3, 7])
    if source.random() < 0.5:
        n = source.choice([2, 3, 10, 100])
        rows = [some_hands(source, n, 1) + (some_start(source),) for _ in range(many)]
        return {"machine": machine, "n": n, "rows": rows, "sources": None}
    n = source.choice([2, 3, 10, 40])
    sources = [source.randint(0, n - 1) for _ in range(source.choice([1, 2, 3, 40]))]
    rows = [
        (source.randint(0, len(sources) - 1),) + some_hands(source, n, 0) + (some_start(source),) for _ in range(many)]
    return {"machine": machine, "n": n, "rows": rows, "sources": sources}


def changed(source, text):
    """Return the text with a change that mostly makes it wrong."""
    lines = text.splitlines(keepends=True)
    at, other = source.randrange(len(lines) + 1), source.randrange(len(lines) + 1)
    kind = source.choice(["cut", "double", "leave out", "move", "sign", "drop", "insert", "end"])
    if kind == "cut":
        return text[:source.randrange(len(text) + 1)]
    if kind == "double":
        return "".join(lines[:at] + lines[max(0, at - 1):])
    if kind == "leave out":
        return "".join(lines[:at] + lines[at + 1:])
    if kind == "move":
        moved = lines[at:at + 1]
        kept = lines[:at] + lines[at + 1:]
        return "".join(kept[:other] + moved + kept[other:])
    if kind == "end":
        return text + source.choice(["\n", " ", "\t", "0", lines[-1], lines[-1][:-1], "tell 0 1 0\n"])
    place = source.randrange(len(text))
    if kind == "drop":
        return text[:place] + text[place + 1:]
    sign = source.choice(list("0123456789 \n\t-+.,_ x0~") + ["source 1\n", "tell 0 1 5\n", "send 0 0 1 5\n", "0" * 30])
    return text[:place] + sign + text[place + (kind == "sign"):]


class WritingSheets(TellCase):

    def test_words_of_each_line(self):
        rows = [(0, 2, 0), (2, 1, 7)]
        self.assertEqual(write_sheet(M, 3, rows), TOLD)
        self.assertEqual(write_sheet(M, 3, tuple(rows), sources=None), TOLD)
        rows = [(0, 0, 1, 0), (1, 2, 0, 15), (0, 1, 2, 4)]
        self.assertEqual(write_sheet(M, 3, rows, sources=[0, 2]), SENT)
        self.assertEqual(write_sheet(M, 3, tuple(rows), sources=(0, 2)), SENT)

    def test_no_rows(self):
        self.assertEqual(write_sheet(M, 1, []), "machine 1 2 2\nhands 1\n")
        text = "machine 0 1000000000 1000000000\nhands 100\n"
        self.assertEqual(write_sheet(Machine(0, BILLION, BILLION), 100, ()), text)
        self.assertEqual(write_sheet(M, 40, [], sources=[39]), "machine 1 2 2\nhands 40\nsource 39\n")

    def test_o_l_and_g_stand_in_their_order(self):
        self.assertEqual(write_sheet(Machine(7, 5, 3), 2, [])[:14], "machine 7 5 3\n")

    def test_other_faults_are_not_looked_for(self):
        rows = [(1, 2, 0), (1, 2, 0), (2, 1, 0), (0, 2, LATEST)]
        self.assertEqual(write_sheet(M, 9, rows).count("tell"), 4)
        rows = [(0, 1, 2, 0), (0, 1, 2, 0), (0, 2, 0, 0), (0, 1, 0, LATEST)]
        self.assertEqual(write_sheet(M, 9, rows, sources=[0]).count("send"), 4)

    def test_wrong_counts(self):
        for wrong in NO_INTEGERS + [None, 0, -1, 101, 10 ** 30]:
            self.assert_raises(InvalidCount(), write_sheet, M, wrong, [])
            self.assert_raises(InvalidCount(), write_sheet, M, wrong, None)
        for wrong in NO_INTEGERS + [None, 0, -1, 1, 41, 100, 101]:
            self.assert_raises(InvalidCount(), write_sheet, M, wrong, [], sources=[0])
            self.assert_raises(InvalidCount(), write_sheet, M, wrong, None, sources="x")

    def test_wrong_sources(self):
        for wrong in NO_LISTS[1:]:
            self.assert_raises(InvalidRows(-1), write_sheet, M, 3, None, sources=wrong)
        for wrong in ([], (), [0] * 41, [None] * 41):
            self.assert_raises(InvalidRows(-1), write_sheet, M, 3, [], sources=wrong)
        for wrong in NO_INTEGERS + [None, -1, 3, 10 ** 30]:
            self.assert_raises(InvalidRows(1), write_sheet, M, 3, [None], sources=[0, wrong, "x"])
        self.assertEqual(write_sheet(M, 3, [], sources=[2] * 40).count("source 2\n"), 40)

    def assert_refused(self, why, at, n, rows, sources):
        self.assert_raises(InvalidPlan(why, at), write_sheet, M, n, rows, sources=sources)

    def test_form(self):
        for row, most, sources in [((0, 1, 5), 400, None), ((0, 0, 1, 5), 2000, [0])]:
            for wrong in NO_LISTS:
                self.assert_refused("form", -1, 3, wrong, sources)
            lines = write_sheet(M, 3, [row] * most, sources=sources).split("\n")
            self.assertEqual(len(lines), most + 3 + len(sources or []))
            self.assert_refused("form", -1, 3, [row] * (most + 1), sources)
            for wrong in wrong_rows(row):
                self.assert_refused("form", 2, 3, [row, row, wrong, wrong], sources)
        self.assert_refused("form", 0, 3, [(0, 0, 1, 5)], None)
        self.assert_refused("form", 0, 3, [(0, 1, 5)], [0])

    def test_letter(self):
        for letter in (-1, 2, 10 ** 30):
            self.assert_refused("letter", 1, 3, [(1, 0, 1, 0), (letter, 0, 1, 0)], [0, 0])
            self.assert_refused("letter", 1, 3, [(1, 0, 0, 0), (letter, 5, 5, 0)], [0, 0])

    def test_hand(self):
        for sender, receiver in [(3, 1), (-1, 1), (0, 3), (0, -1), (0, 0), (1, 1), (2, 0), (10 ** 30, 10 ** 30)]:
            self.assert_refused("hand", 1, 3, [(0, 1, 0), (sender, receiver, 0), (9, 9, 9)], None)
            if (sender, receiver) != (2, 0):
                rows = [(0, 2, 0, 0), (0, sender, receiver, 0), (0, 9, 9, 9)]
                self.assert_refused("hand", 1, 3, rows, [0])

    def test_kinds_come_one_behind_the_other(self):
        self.assert_refused("form", 2, 3, [(0, 0, 0), (0, 1, 0), (0, 1, -1)], None)
        self.assert_refused("form", 2, 3, [(0, 0, 0, 0), (9, 0, 1, 0), (0, 0, 1, -1)], [0])
        self.assert_refused("letter", 2, 3, [(0, 0, 0, 0), (0, 0, 1, 0), (9, 0, 1, 0)], [0])


class ReadingSheets(TellCase):

    def assert_line(self, number, text):
        """Check that this line is the first wrong one, and that the words of the document say so too."""
        self.assertEqual(plain_sheet(text), number)
        self.assert_raises(InvalidText(number), read_sheet, text)

    def assert_read(self, text):
        """Check that the text is read as the words of the document say, and written again."""
        told = read_sheet(text)
        self.assertIs(type(told), tuple)
        machine, n, rows, sources = told
        self.assertEqual(((machine.o, machine.l, machine.g), n, rows, sources), plain_sheet(text))
        self.assertEqual((type(machine), type(n), type(rows)), (Machine, int, list))
        self.assertEqual({type(row) for row in rows} | {tuple}, {tuple})
        self.assertIs(type(sources), type(None) if sources is None else list)
        self.assertEqual(write_sheet(machine, n, rows, sources=sources), text)

    def test_kinds_of_sheets(self):
        self.assertEqual(read_sheet(TOLD), (M, 3, [(0, 2, 0), (2, 1, 7)], None))
        self.assertEqual(read_sheet(SENT), (M, 3, [(0, 0, 1, 0), (1, 2, 0, 15), (0, 1, 2, 4)], [0, 2]))
        self.assertEqual(read_sheet(HEAD), (M, 3, [], None))
        self.assertEqual(read_sheet(HEAD + "source 2\n"), (M, 3, [], [2]))
        for text in (TOLD, SENT, HEAD, HEAD + "source 2\n"):
            self.assert_read(text)

    def test_lists_are_new(self):
        told = read_sheet(SENT)
        told[2].clear()
        told[3].clear()
        self.assertEqual(read_sheet(SENT), (M, 3, [(0, 0, 1, 0), (1, 2, 0, 15), (0, 1, 2, 4)], [0, 2]))

    def test_no_string(self):
        for thing in NO_LISTS + NO_INTEGERS + [None, [TOLD], (TOLD,), TOLD.encode(), {TOLD: TOLD}, list(TOLD)]:
            if not isinstance(thing, str):
                self.assert_raises(InvalidText(0), read_sheet, thing)
                self.assert_raises(InvalidText(0), read_sightings, thing)

    def test_missing_lines(self):
        self.assert_line(1, "")
        self.assert_line(1, "\n")
        self.assert_line(1, "machine 1 2 2")
        self.assert_line(2, "machine 1 2 2\n")
        self.assert_line(2, "machine 1 2 2\nhands 3")
        self.assert_line(1, "hands 3\n")
        self.assert_line(1, TOLD[TOLD.index("hands"):])

    def test_machine_line(self):
        for numbers in ["0 0 1", "1 2 0", "1000000001 2 2", "1 1000000001 2", "1 2 1000000001", "1 2", "1 2 2 2", "",
                        " 1 2 2", "1  2 2", "1 2 2 ", "0 1 0", "1 2 2\t"]:
            self.assert_line(1, f"machine {numbers}\nhands 3\n")
        for numbers in ["0 1 1", "1 0 1", "1000000000 1000000000 1000000000", "0 1000000000 1"]:
            self.assert_read(f"machine {numbers}\nhands 3\n")
        for line in ["Machine 1 2 2", " machine 1 2 2", "machines 1 2 2", "machine1 2 2", "1 2 2", "machine\t1 2 2",
                     "machine"]:
            self.assert_line(1, line + "\nhands 3\n")

    def test_hands_line(self):
        for line in ["hands 0", "hands 101", "hands", "hands ", "hands 3 3", " hands 3", "hand 3", "hands  3",
                     "hands 3 ", "HANDS 3", "tell 0 1 0", "source 0", "machine 1 2 2", ""]:
            self.assert_line(2, f"machine 1 2 2\n{line}\ntell 0 1 0\n")
        for n in (1, 2, 40, 41, 99, 100):
            self.assert_read(f"machine 1 2 2\nhands {n}\n")

    def test_source_lines(self):
        for n in (1, 41, 100):
            self.assert_line(3, f"machine 1 2 2\nhands {n}\nsource 0\n")
        for n in (2, 40):
            self.assert_read(f"machine 1 2 2\nhands {n}\nsource {n - 1}\nsource 0\n")
            self.assert_line(4, f"machine 1 2 2\nhands {n}\nsource 0\nsource {n}\n")
        for line in ["source", "source ", "source 0 0", "sources 0", "source  0", " source 0", "source 0 ",
                     "source -1"]:
            self.assert_line(4, f"{HEAD}source 0\n{line}\nsend 0 0 1 0\n")
            self.assert_line(3, f"{HEAD}{line}\nsend 0 0 1 0\n")

    def test_source_lines_at_the_limit(self):
        self.assert_read(HEAD + "source 1\n" * 40)
        self.assert_read(HEAD + "source 1\n" * 40 + "send 39 0 1 0\n")
        self.assert_line(43, HEAD + "source 1\n" * 41)
        self.assert_line(43, HEAD + "source 1\n" * 40 + "source x\n")
        self.assert_line(43, HEAD + "source 1\n" * 41 + "send 0 0 1 0\n")
        self.assert_line(42, HEAD + "source 1\n" * 39 + "source 3\nsource 1\n")

    def test_lines_at_a_wrong_place(self):
        for line in ("machine 1 2 2", "hands 3", "send 0 0 1 0", "seen 0 0", ""):
            self.assert_line(3, HEAD + line + "\n")
        for line in ("machine 1 2 2", "hands 3", "send 0 0 1 0", "source 0", "source 9", ""):
            self.assert_line(5, TOLD.replace("tell 2 1 7", "tell 2 1 7\n" + line))
            self.assert_line(4, TOLD.replace("tell 2", line + "\ntell 2"))
        for line in ("machine 1 2 2", "hands 3", "tell 0 1 0", ""):
            self.assert_line(4, HEAD + "source 0\n" + line + "\n")
            self.assert_line(5, HEAD + "source 0\nsend 0 0 1 0\n" + line + "\n")
        self.assert_line(5, HEAD + "source 0\nsend 0 0 1 0\nsource 0\n")

    def test_tell_lines(self):
        for numbers in ["3 1 0", "0 3 0", "1 1 0", "0 0 0", "1 0 0", "0 1 1000000000000001", "0 1", "0 1 0 0", "",
                        "-1 1 0", "0 -1 0", "0 1 -1", "0  1 0", "0 1 0 ", " 0 1 0"]:
            self.assert_line(4, f"{HEAD}tell 0 1 0\ntell {numbers}\ntell 0 1 0\n")
        for numbers in ["0 1 0", "2 1 1000000000000000", "1 2 999999999999999"]:
            self.assert_read(f"{HEAD}tell {numbers}\n")
        for line in ("tells 0 1 0", "Tell 0 1 0", "tell", " tell 0 1 0", "tell0 1 0", "tell\t0 1 0", "tell 0\t1 0"):
            self.assert_line(4, f"{HEAD}tell 0 1 0\n{line}\n")

    def test_send_lines(self):
        for numbers in ["2 0 1 0", "0 3 1 0", "0 0 3 0", "0 1 1 0", "0 0 1 1000000000000001", "0 0 1", "0 0 1 0 0", "",
                        "-1 0 1 0", "0 -1 1 0", "0 0 1 -1", "0 0  1 0", "0 0 1 0 "]:
            self.assert_line(6, f"{HEAD}source 0\nsource 0\nsend 0 0 1 0\nsend {numbers}\nsend 0 0 1 0\n")
        for numbers in ["1 0 1 0", "0 2 1 1000000000000000", "1 1 0 9"]:
            self.assert_read(f"{HEAD}source 0\nsource 0\nsend {numbers}\n")

    def test_rows_at_the_limit(self):
        self.assert_read(HEAD + "tell 0 1 0\n" * 400)
        self.assert_line(403, HEAD + "tell 0 1 0\n" * 401)
        self.assert_line(403, HEAD + "tell 0 1 0\n" * 400 + "tell 0 1 x\n")
        self.assert_line(402, HEAD + "tell 0 1 0\n" * 399 + "tell 0 1 x\ntell 0 1 0\n")
        for k in (1, 40):
            head = HEAD + "source 0\n" * k
            self.assert_read(head + "send 0 0 1 0\n" * 2000)
            self.assert_line(2003 + k, head + "send 0 0 1 0\n" * 2001)
            self.assert_line(2003 + k, head + "send 0 0 1 0\n" * 2000 + "\n")

    def test_a_line_without_its_end(self):
        for text in (TOLD, SENT, HEAD, HEAD + "source 2\n"):
            self.assert_line(text.count("\n"), text[:-1])
            self.assert_line(text.count("\n") + 1, text + " ")
            self.assert_line(text.count("\n") + 1, text + "tell 0 1 0")
            self.assert_line(text.count("\n") + 1, text + "\n")

    def test_how_numbers_are_written(self):
        for text in (TOLD, SENT):
            lines = text.splitlines()
            for number, line in enumerate(lines, start=1):
                parts = line.split(" ")
                for at in range(1, len(parts)):
                    for wrong in NO_NUMBERS:
                        changed_line = " ".join(parts[:at] + [wrong] + parts[at + 1:])
                        self.assert_line(number, "\n".join(lines[:number - 1] + [changed_line] + lines[number:]) + "\n")

    def test_the_first_wrong_line_counts(self):
        self.assert_line(1, "machine 0 0 0\nhands 0\ntell 9 9 9")
        self.assert_line(2, "machine 1 2 2\nhands 0\ntell 9 9 9")
        self.assert_line(3, HEAD + "tell 9 9 9\ntell 9 9 9")
        self.assert_line(4, HEAD + "tell 0 1 0\nsource 0\ntell 9 9 9")

    def test_cut_anywhere(self):
        for text in (TOLD, SENT):
            for length in range(len(text) + 1):
                wanted = plain_sheet(text[:length])
                if isinstance(wanted, int):
                    self.assert_line(wanted, text[:length])
                else:
                    self.assert_read(text[:length])

    def test_lines_doubled_left_out_and_elsewhere(self):
        for text in (TOLD, SENT):
            lines = text.splitlines(keepends=True)
            for at in range(len(lines)):
                rest = lines[:at] + lines[at + 1:]
                for other in range(len(lines)):
                    for mixed in (rest, rest[:other] + [lines[at]] + rest[other:], lines[:other] + lines[at:]):
                        self.check_text("".join(mixed))

    def check_text(self, text):
        """Check that the text is read or refused as the words of the document say, and tell which."""
        wanted = plain_sheet(text)
        if isinstance(wanted, int):
            self.assert_line(wanted, text)
        else:
            self.assert_read(text)
        return isinstance(wanted, int)

    def test_changed_texts(self):
        source = random.Random(72)
        refused = 0
        for _ in range(3000):
            given = some_sheet(source)
            text = write_sheet(**given)
            self.assertEqual(read_sheet(text), (given["machine"], given["n"], given["rows"], given["sources"]))
            for _ in range(source.choice([1, 1, 2])):
                text = changed(source, text) or text
            refused += self.check_text(text)
        self.assertTrue(1500 < refused < 2900, refused)

    def test_plans_and_letters_plans(self):
        for machine in (M, Machine(BILLION, BILLION, BILLION), Machine.of(1, BILLION)):
            plan = best_plan(machine, 100)
            self.assertEqual(read_sheet(text=write_sheet(machine, 100, plan)), (machine, 100, plan, None))
            sent = letters_plan(machine, 40, 40)
            text = write_sheet(machine, 40, sent, sources=[0] * 40)
            self.assertEqual(read_sheet(text), (machine, 40, sent, [0] * 40))
            self.assertEqual(text, write_sheet(*read_sheet(text)[:3], sources=read_sheet(text)[3]))


class Sightings(TellCase):

    def assert_line(self, number, text):
        """Check that this line is the first wrong one, and that the words of the document say so too."""
        self.assertEqual(plain_sightings(text), number)
        self.assert_raises(InvalidText(number), read_sightings, text)

    def assert_read(self, text):
        """Check that the text is read as the words of the document say, and written again."""
        rows = read_sightings(text)
        self.assertEqual(rows, plain_sightings(text))
        self.assertIs(type(rows), list)
        for row in rows:
            self.assertEqual((type(row), type(row[0]), type(row[1])), (tuple, tuple, int))
        self.assertEqual(write_sightings(rows), text)

    def test_writing(self):
        self.assertEqual(write_sightings([((0, 2, 0), 11), ((0,), 0), ((0, 0), 3)]), SEEN)
        self.assertEqual(write_sightings((((0, 2, 0), 11), ((0,), 0), ((0, 0), 3))), SEEN)
        self.assertEqual(write_sightings([]), "")
        self.assertEqual(write_sightings(()), "")
        self.assertEqual(write_sightings([((0, LATEST), 10 ** 20)]), "seen 0.1000000000000000 100000000000000000000\n")

    def test_wrong_rows(self):
        for thing in NO_LISTS:
            self.assert_raises(InvalidRows(-1), write_sightings, thing)
        right = ((0, 1), 7)
        self.assert_raises(InvalidRows(-1), write_sightings, [right] * 61)
        self.assertEqual(write_sightings([right] * 60), "seen 0.1 7\n" * 60)
        for wrong in wrong_sightings():
            self.assert_raises(InvalidRows(2), write_sightings, [right, right, wrong, None])

    def test_reading(self):
        self.assertEqual(read_sightings(SEEN), [((0, 2, 0), 11), ((0,), 0), ((0, 0), 3)])
        self.assertEqual(read_sightings(""), [])
        for text in ("", SEEN, "seen 0.1 7\n" * 60, "seen 0.1000000000000000 100000000000000000000\n",
                     "seen " + ".".join(["0"] * 200) + " 0\n", "seen 0" + ".999999999999999" * 199 + " 7\n"):
            self.assert_read(text)

    def test_too_many(self):
        self.assert_line(61, "seen 0.1 7\n" * 61)
        self.assert_line(61, "seen 0.1 7\n" * 61 + "x")
        self.assert_line(61, "seen 0.1 7\n" * 60 + "x")
        self.assert_line(61, "seen 0.1 7\n" * 60 + "\n")
        self.assert_line(60, "seen 0.1 7\n" * 59 + "x\n" + "seen 0.1 7\n")

    def test_wrong_lines(self):
        for line in ["", "seen", "seen ", "seen 0", "seen 0.1", "seen 0.1 ", "seen 0.1 7 7", " seen 0.1 7",
                     "seen  0.1 7", "seen 0.1  7", "seen 0.1 7 ", "Seen 0.1 7", "saw 0.1 7", "0.1 7",
                     "seen 0.1\t7", "seen\t0.1 7",
                     "seen 0 1 7", "seen 0,1 7", "seen .0 7", "seen 0. 7", "seen 0..1 7", "seen . 7", "seen 0.1. 7",
                     "seen .0.1 7", "seen 1 0", "seen 1.0 4", "seen 2 0", "seen 0.1000000000000001 7",
                     "seen 0.1 100000000000000000001", "seen " + ".".join(["0"] * 201) + " 0", "seen 0.-1 7",
                     "seen 0.1 -7", "seen 00.1 7", "seen 0.01 7", "seen 0.1 07", "seen 0.+1 7", "seen (0, 1) 7",
                     "seen 0.1 7.", "seen 0.1 .7", "seen  7", "tell 0 1 7", "machine 1 2 2"]:
            self.assert_line(1, line + "\n")
            self.assert_line(2, f"seen 0 0\n{line}\nseen 1 1\n")

    def test_how_numbers_are_written(self):
        for wrong in NO_NUMBERS:
            if wrong != "1.0":
                self.assert_line(2, f"seen 0 0\nseen 0.{wrong} 7\n")
                self.assert_line(2, f"seen 0 0\nseen 0.3.{wrong}.4 7\n")
            self.assert_line(2, f"seen 0 0\nseen {wrong}.1 7\n")
            self.assert_line(2, f"seen 0 0\nseen 0.1 {wrong}\n")

    def test_a_line_without_its_end(self):
        self.assert_line(3, SEEN[:-1])
        self.assert_line(1, "seen 0 0")
        self.assert_line(4, SEEN + "seen 0 0")
        self.assert_line(4, SEEN + " ")
        self.assert_line(4, SEEN + "\n")
        self.assert_line(1, "\n")
        self.assert_line(1, " ")

    def test_cut_anywhere(self):
        for length in range(len(SEEN)):
            if length > 0 and SEEN[length - 1] != "\n":
                self.assert_line(SEEN[:length].count("\n") + 1, SEEN[:length])
            else:
                self.assert_read(SEEN[:length])

    def test_changed_texts(self):
        source = random.Random(73)
        refused = 0
        for _ in range(3000):
            rows = []
            for _ in range(source.choice([1, 2, 3, 60])):
                name = (0,) + tuple(source.choice([0, 1, 10, LATEST]) for _ in range(source.choice([0, 1, 2, 5])))
                rows.append((name, source.choice([0, 1, 17, 10 ** 20])))
            text = write_sightings(rows)
            self.assertEqual(read_sightings(text), rows)
            text = changed(source, text)
            wanted = plain_sightings(text)
            if isinstance(wanted, int):
                refused += 1
                self.assert_line(wanted, text)
            else:
                self.assert_read(text)
        self.assertTrue(1000 < refused < 2900, refused)

    def test_long_names(self):
        rows = [((0,) + (LATEST - at,) * 199, 10 ** 20 - at) for at in range(60)]
        text = write_sightings(rows)
        self.assertEqual(max(len(line) for line in text.split("\n")), len("seen 0") + 199 * 17 + 22)
        self.assertEqual(read_sightings(text), rows)


if __name__ == "__main__":
    unittest.main()
