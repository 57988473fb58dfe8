"""Machines: the times that letters and sendings take."""

from tellontree.checks import is_between, is_integer
from tellontree.errors import InvalidMachine

GREATEST_PART = 10 ** 9


class Machine:
    """The busy time o, the way l and the least time g between two sendings."""

    def __init__(self, o, l, g):
        if not is_between(o, 0, GREATEST_PART):
            raise InvalidMachine("o")
        if not is_between(l, 0, GREATEST_PART):
            raise InvalidMachine("l")
        if not is_between(g, 1, GREATEST_PART):
            raise InvalidMachine("g")
        if 2 * o + l == 0:
            raise InvalidMachine("letter")
        self.o = o
        self.l = l
        self.g = g
        self.letter = 2 * o + l
        self.gap = max(o, g)

    @classmethod
    def of(cls, letter, gap):
        """Return the machine that is never busy, with this letter time and gap."""
        if not is_between(letter, 1, GREATEST_PART):
            raise InvalidMachine("letter")
        if not is_between(gap, 1, GREATEST_PART):
            raise InvalidMachine("gap")
        return cls(0, letter, gap)

    def __mul__(self, factor):
        if not is_integer(factor) or factor < 1:
            raise InvalidMachine("factor")
        return Machine(self.o * factor, self.l * factor, self.g * factor)

    def __eq__(self, other):
        return isinstance(other, Machine) and self.o == other.o and self.l == other.l and self.g == other.g
