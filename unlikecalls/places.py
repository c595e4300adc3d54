"""Places: registers and slots [11], and what is read or written next in an area [62]."""

from unlikecalls.basics import is_between, is_count, is_one_of, is_word_of
from unlikecalls.errors import InvalidNumber, InvalidPlace

GROUPS = ("whole", "float")
LAST_NUMBER = 7
GROUP_STRIDE = 8
REGISTER_BITS = 64
ALIGNMENTS = (1, 2, 4, 8, 16)
MOST_BYTES = 16


def next_multiple(number, step):
    """The first multiple of step from number on."""
    return (number + step - 1) // step * step


class Place:
    """What registers, slots and nexts have in common."""

    @property
    def bits(self):
        """How many bits a place has."""
        return 0


class Register(Place):
    """A register: its group, and its number there."""

    def __init__(self, group, number):
        if not is_word_of(group, GROUPS):
            raise InvalidPlace(group)
        if not is_between(number, 0, LAST_NUMBER):
            raise InvalidPlace(number)
        self._group = group
        self._number = number
        self._code = (GROUPS.index(group) * GROUP_STRIDE + number, 0)

    @property
    def group(self):
        """The word "whole" or "float"."""
        return self._group

    @property
    def number(self):
        """The number in the group, from 0 to 7."""
        return self._number

    @property
    def bits(self):
        """How many bits a register has."""
        return REGISTER_BITS

    def code(self):
        """Two numbers that tell it, the second one 0: other registers, slots and nexts have others."""
        return self._code

    def __eq__(self, other):
        return isinstance(other, Register) and self._group == other._group and self._number == other._number

    def __repr__(self):
        return f"Register({self._group!r}, {self._number})"


class Slots(Place):
    """Some neighbouring bytes of an area."""

    def __init__(self, offset, many):
        if not is_count(offset):
            raise InvalidPlace(offset)
        if not is_between(many, 1, MOST_BYTES):
            raise InvalidPlace(many)
        self._offset = offset
        self._many = many

    @property
    def offset(self):
        """The number of the first byte."""
        return self._offset

    @property
    def many(self):
        """How many bytes there are."""
        return self._many

    @property
    def end(self):
        """The number of the first byte behind these."""
        return self._offset + self._many

    @property
    def bits(self):
        """How many bits these bytes have."""
        return 8 * self._many

    def code(self):
        """Two numbers that tell these slots: the offset, and how many bytes."""
        return self._offset, self._many

    def __contains__(self, x):
        return is_between(x, self._offset, self._offset + self._many - 1)

    def meets(self, other):
        """Whether these slots have a byte in common with other ones."""
        if not isinstance(other, Slots):
            raise InvalidPlace(other)
        return self._offset < other.end and other.offset < self.end

    def __add__(self, other):
        if not is_count(other):
            raise InvalidNumber(other)
        return Slots(self._offset + other, self._many)

    def __sub__(self, other):
        if not is_between(other, 0, self._offset):
            raise InvalidNumber(other)
        return Slots(self._offset - other, self._many)

    def __eq__(self, other):
        return isinstance(other, Slots) and self._offset == other._offset and self._many == other._many

    def __repr__(self):
        return f"Slots({self._offset}, {self._many})"


class Next(Place):
    """The bytes from the next multiple of an alignment on, wherever a pointer stands."""

    def __init__(self, align, many):
        if not is_one_of(align, ALIGNMENTS):
            raise InvalidPlace(align)
        if not is_between(many, 1, MOST_BYTES):
            raise InvalidPlace(many)
        self._align = align
        self._many = many

    @property
    def align(self):
        """What the first byte is a multiple of."""
        return self._align

    @property
    def many(self):
        """How many bytes there are."""
        return self._many

    @property
    def bits(self):
        """How many bits these bytes have."""
        return 8 * self._many

    def code(self):
        """Two numbers that tell it: the alignment, and how many bytes."""
        return self._align, self._many

    def from_offset(self, offset):
        """The slots that are meant if the pointer stands at this offset."""
        if not is_count(offset):
            raise InvalidNumber(offset)
        return Slots(next_multiple(offset, self._align), self._many)

    def __eq__(self, other):
        return isinstance(other, Next) and self._align == other._align and self._many == other._many

    def __repr__(self):
        return f"Next({self._align}, {self._many})"
