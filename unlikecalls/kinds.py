"""Kinds of arguments, and books of kinds [21]."""

from unlikecalls.basics import is_between, is_count, is_name, is_one_of, is_word_of
from unlikecalls.errors import InvalidBook, InvalidKind, InvalidName, OtherBook, TooMany, UnknownKind
from unlikecalls.places import ALIGNMENTS, GROUPS

SIZES = (1, 2, 4, 8, 16)
DOUBLE_SIZE = 16
LEAST_WIDTH = 2
LEAST_DOUBLE_WIDTH = 65
MOST_KINDS = 5


class Kind:
    """A kind of arguments."""

    def __init__(self, name, group="whole", *, size=8, width=None, align=None):
        if not is_name(name):
            raise InvalidName(name)
        if not is_word_of(group, GROUPS):
            raise InvalidKind(group)
        if not is_one_of(size, SIZES):
            raise InvalidKind(size)
        least = LEAST_DOUBLE_WIDTH if size == DOUBLE_SIZE else LEAST_WIDTH
        if width is not None and not is_between(width, least, 8 * size):
            raise InvalidKind(width)
        if align is not None and not is_one_of(align, ALIGNMENTS):
            raise InvalidKind(align)
        self._name = name
        self._group = group
        self._size = size
        self._width = 8 * size if width is None else width
        self._align = size if align is None else align
        self._parts = (self._name, self._group, self._size, self._width, self._align)

    @property
    def name(self):
        """The NAME."""
        return self._name

    @property
    def group(self):
        """The group of registers, "whole" or "float"."""
        return self._group

    @property
    def size(self):
        """How many bytes a value takes."""
        return self._size

    @property
    def width(self):
        """How many bits of a value mean something."""
        return self._width

    @property
    def align(self):
        """The alignment."""
        return self._align

    @property
    def is_double(self):
        """Whether a value takes two registers."""
        return self._size == DOUBLE_SIZE

    def parts(self):
        """All that this kind tells, as a tuple: equal kinds have equal parts."""
        return self._parts

    def holds(self, value):
        """Whether value is a value of this kind."""
        return is_count(value) and value.bit_length() <= self._width

    def __eq__(self, other):
        return isinstance(other, Kind) and self._parts == other._parts

    def __repr__(self):
        inside = f"size={self._size}, width={self._width}, align={self._align}"
        return f"Kind({self._name!r}, {self._group!r}, {inside})"


class Book:
    """One to five kinds with different names, in a sequence."""

    def __init__(self, *kinds):
        for kind in kinds:
            if not isinstance(kind, Kind):
                raise InvalidKind(kind)
        names = [kind.name for kind in kinds]
        for position, name in enumerate(names):
            if name in names[:position]:
                raise InvalidName(name)
        if len(kinds) > MOST_KINDS:
            raise TooMany("kinds", MOST_KINDS)
        if len(kinds) == 0:
            raise InvalidBook(None)
        self._kinds = kinds
        self._names = tuple(names)
        self._parts = tuple([kind.parts() for kind in kinds])

    def kinds(self):
        """The kinds, in sequence."""
        return list(self._kinds)

    def names(self):
        """The names of the kinds, in sequence."""
        return list(self._names)

    def parts(self):
        """The parts of all kinds, as a tuple: equal books have equal parts."""
        return self._parts

    def kind(self, name):
        """The kind with this name."""
        return self._kinds[self.number_of(name)]

    def number_of(self, name):
        """The number in the sequence of the kind with this name."""
        if not is_word_of(name, self._names):
            raise UnknownKind(name)
        return self._names.index(name)

    def __len__(self):
        return len(self._kinds)

    def __contains__(self, x):
        return is_word_of(x, self._names)

    def __add__(self, other):
        kinds = self._kinds + (other,)
        return Book(*kinds)

    def __eq__(self, other):
        return isinstance(other, Book) and self._parts == other._parts


def check_one_book(things):
    """Refuses things, each with a book, if these are not all of one book."""
    for thing in things:
        if thing.book != things[0].book:
            raise OtherBook(things[0].book, thing.book)
