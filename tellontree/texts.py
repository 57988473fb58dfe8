"""Texts: sheets of plans and of letters plans, and texts of sightings."""

from tellontree.checks import (
    MOST_LETTERS, MOST_PLANNED, MOST_SHARING, MOST_SIGHTINGS, check_count, check_sightings, check_sources,
    is_between, is_sighting)
from tellontree.errors import InvalidMachine, InvalidText
from tellontree.faults import MOST_ROWS, refuse
from tellontree.letters import MOST_SENDINGS, sending_fault
from tellontree.machines import Machine
from tellontree.plans import row_fault

# As many digits as the latest time of a sighting has: no number of any line has more.
MOST_DIGITS = 21


def line_of(word, parts):
    """Return the line of a word and of parts behind it."""
    return " ".join([word] + [str(part) for part in parts]) + "\n"


def number_of(part):
    """Return the number that the part of a line writes, or None."""
    # The length comes first: Python does not read numbers of thousands of digits.
    if len(part) > MOST_DIGITS or not part.isascii() or not part.isdigit():
        return None
    if part[0] == "0" and part != "0":
        return None
    return int(part)


def numbers_of(parts):
    """Return the tuple of the numbers that the parts write, or None if one writes none."""
    numbers = [number_of(part) for part in parts]
    return None if None in numbers else tuple(numbers)


def numbers_in(line, word, many):
    """Return the numbers of a line that consists of the word and so many numbers, or None."""
    first, *parts = line.split(" ")
    if first != word or len(parts) != many:
        return None
    return numbers_of(parts)


def check_string(text):
    """Raise InvalidText unless the text is a string."""
    if not isinstance(text, str):
        raise InvalidText(0)


def read_line(lines, number, read):
    """Return what read makes of the line with this number, counted from 1.

    InvalidText is raised if there is no such line, or if read makes None of it.
    """
    thing = read(lines[number - 1]) if number <= len(lines) else None
    if thing is None:
        raise InvalidText(number)
    return thing


def read_lines(lines, number, most, read):
    """Return what read makes of each line from this number on, of which there may be at most most."""
    things = []
    for at in range(number, len(lines) + 1):
        if len(things) == most:
            raise InvalidText(at)
        things.append(read_line(lines, at, read))
    return things


def check_rest(lines, rest):
    """Raise InvalidText if there is a rest behind the lines: a line that does not end with a newline."""
    if rest != "":
        raise InvalidText(len(lines) + 1)


def check_sheet(n, rows, sources):
    """Raise the first error that is due for what shall be written on a sheet."""
    if sources is None:
        check_count(n, 1, MOST_PLANNED)
        refuse(row_fault(n, rows))
    else:
        check_count(n, 2, MOST_SHARING)
        check_sources(sources, n)
        refuse(sending_fault(n, len(sources), rows))


def write_sheet(machine, n, rows, *, sources=None):
    """Return the sheet of a plan, or, with sources, that of a letters plan."""
    check_sheet(n, rows, sources)
    lines = [line_of("machine", [machine.o, machine.l, machine.g]), line_of("hands", [n])]
    if sources is None:
        lines.extend([line_of("tell", row) for row in rows])
    else:
        lines.extend([line_of("source", [source]) for source in sources])
        lines.extend([line_of("send", row) for row in rows])
    return "".join(lines)


def machine_in(line):
    """Return the machine of a machine line, or None."""
    numbers = numbers_in(line, "machine", 3)
    if numbers is None:
        return None
    o, l, g = numbers
    try:
        return Machine(o, l, g)
    except InvalidMachine:
        return None


def hands_in(line):
    """Return the number of hands of a hands line, or None."""
    numbers = numbers_in(line, "hands", 1)
    if numbers is None or not is_between(numbers[0], 1, MOST_PLANNED):
        return None
    return numbers[0]


def tell_in(line, n):
    """Return the row of a tell line for n hands, or None."""
    row = numbers_in(line, "tell", 3)
    if row is None or row_fault(n, [row]) is not None:
        return None
    return row


def send_in(line, n, k):
    """Return the row of a send line for n hands and k letters, or None."""
    row = numbers_in(line, "send", 4)
    if row is None or sending_fault(n, k, [row]) is not None:
        return None
    return row


def read_sources(lines, n):
    """Return the sources of the source lines, which begin at line 3."""
    sources = []
    for at in range(3, len(lines) + 1):
        numbers = numbers_in(lines[at - 1], "source", 1)
        if numbers is None:
            return sources
        if not is_between(n, 2, MOST_SHARING) or len(sources) == MOST_LETTERS or numbers[0] >= n:
            raise InvalidText(at)
        sources.append(numbers[0])
    return sources


def read_sheet(text):
    """Return the machine, the number of hands, the rows and the sources, or None, of a sheet."""
    check_string(text)
    *lines, rest = text.split("\n")
    machine = read_line(lines, 1, machine_in)
    n = read_line(lines, 2, hands_in)
    sources = read_sources(lines, n)
    k = len(sources)
    if k == 0:
        rows = read_lines(lines, 3, MOST_ROWS, lambda line: tell_in(line, n))
    else:
        rows = read_lines(lines, 3 + k, MOST_SENDINGS, lambda line: send_in(line, n, k))
    check_rest(lines, rest)
    return (machine, n, rows, None if k == 0 else sources)


def write_sightings(rows):
    """Return the text of the sightings."""
    check_sightings(rows)
    return "".join([line_of("seen", [".".join([str(item) for item in name]), time]) for name, time in rows])


def sighting_in(line):
    """Return the sighting of a seen line, or None."""
    parts = line.split(" ")
    if len(parts) != 3 or parts[0] != "seen":
        return None
    sighting = (numbers_of(parts[1].split(".")), number_of(parts[2]))
    return sighting if is_sighting(sighting) else None


def read_sightings(text):
    """Return the list of the sightings of a text."""
    check_string(text)
    *lines, rest = text.split("\n")
    rows = read_lines(lines, 1, MOST_SIGHTINGS, sighting_in)
    check_rest(lines, rest)
    return rows
