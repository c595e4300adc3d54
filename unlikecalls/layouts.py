"""Layouts: where the arguments of a signature stand [31], [32], [33].

A convention hands over what it tells as a dict of its options by their names, without the fills, and a dict of
its fills by the names of kinds. Both have been checked by then.
"""

from unlikecalls.basics import is_between
from unlikecalls.errors import InvalidNumber
from unlikecalls.fills import Fill
from unlikecalls.places import GROUPS, Next, Register, next_multiple
from unlikecalls.signatures import Signature

FIRST_STATE = (0, 0, 0, 0, 0, 0)
CLOSED_AT = 2
MARK_AT = 4
OFFSET_AT = 5
OFFSET_MODULUS = 16
HALF_SIZE = 8


def place_letter(options, book, state, letter):
    """A tuple: the pieces of a letter, the next state, and by how much the offset grows.

    The offsets of slots are counted from the offset ahead of the letter.
    """
    if letter == Signature.MARK:
        marked = list(state)
        marked[MARK_AT] = 1
        return [], tuple(marked), 0
    kind = book.kind(letter)
    begin = begin_of(options, state, kind)
    got = registers_got(options, state, kind, begin)
    pieces = [Register(kind.group, begin + number) for number in range(got)]
    growth = 0
    if got < registers_needed(kind):
        # Of the offset only what is left by 16 is known, which is all that a boundary asks for.
        slots = next_slots(options, kind, got).from_offset(state[OFFSET_AT]) - state[OFFSET_AT]
        pieces.append(slots)
        growth = slots.end
    return pieces, state_behind(options, state, kind, begin, got, growth), growth


def registers_needed(kind):
    """How many registers an argument of this kind needs."""
    return 2 if kind.is_double else 1


def is_sent_to_slots(options, state, kind):
    """Whether an argument goes to slots however many registers there are."""
    if state[CLOSED_AT + GROUPS.index(kind.group)] == 1:
        return True
    return state[MARK_AT] == 1 and options["tail"] == "slots"


def begin_of(options, state, kind):
    """The number of the register where an argument begins, whether or not there is one."""
    used = state[GROUPS.index(kind.group)]
    if kind.is_double and options["doubles"] == "even":
        return next_multiple(used, 2)
    return used


def registers_got(options, state, kind, begin):
    """How many registers an argument gets that would begin there."""
    if is_sent_to_slots(options, state, kind):
        return 0
    left = options["wholes" if kind.group == "whole" else "floats"] - begin
    needed = registers_needed(kind)
    if left >= needed:
        return needed
    if left == 1 and options["doubles"] == "split":
        return 1
    return 0


def next_slots(options, kind, got):
    """The Next that finds the slots of an argument that got so many registers, less than it needs."""
    slot = options["slot"]
    size, align = kind.size, kind.align
    if got > 0:
        size = HALF_SIZE
        align = align if align < HALF_SIZE else HALF_SIZE
    boundary = align if options["natural"] and align > slot else slot
    return Next(boundary, next_multiple(size, slot))


def state_behind(options, state, kind, begin, got, growth):
    """The state behind an argument that would begin there, and got so many registers."""
    after = list(state)
    after[OFFSET_AT] = (state[OFFSET_AT] + growth) % OFFSET_MODULUS
    if is_sent_to_slots(options, state, kind):
        return tuple(after)
    group = GROUPS.index(kind.group)
    touched = [0, 1] if options["together"] else [group]
    for number in touched:
        after[number] = used_behind(options, state[group], kind, begin, got)
        if got < registers_needed(kind) and not options["again"]:
            after[CLOSED_AT + number] = 1
    return tuple(after)


def used_behind(options, used, kind, begin, got):
    """How many registers are used up behind an argument that was not sent to slots."""
    if not options["together"]:
        return begin + got if got > 0 else used
    # An argument that lacks registers uses up those that it would have had.
    behind = begin + registers_needed(kind)
    most = max(int(options["wholes"]), int(options["floats"]))
    return behind if behind < most else most


def piece_behind(piece, offset):
    """A piece whose slots were counted from this offset, as it stands in the area."""
    if isinstance(piece, Register):
        return piece
    return piece + offset


def fill_of(fills, name):
    """The fill of a kind, FREE if none is told."""
    if name in fills:
        return fills[name]
    return Fill()


def bits_in(pieces):
    """How many bits these pieces have together."""
    return sum([piece.bits for piece in pieces])


def cut_fill(fills, kind, pieces):
    """The fill of an argument of this kind, cut at the bits of its pieces."""
    return fill_of(fills, kind.name).cut(kind.width, bits_in(pieces))


def argument_number(layout, value):
    """The value, if it is the number of an argument."""
    if not is_between(value, 0, len(layout) - 1):
        raise InvalidNumber(value)
    return value


class Layout:
    """Where a convention puts the arguments of a signature. It is made by convention >> signature only."""

    def __init__(self, convention, signature, options, fills):
        book = signature.book
        arguments = []
        states = [FIRST_STATE]
        offsets = [options["home"]]
        for letter in signature.letters():
            placed, state, growth = place_letter(options, book, states[-1], letter)
            if letter != Signature.MARK:
                arguments.append([piece_behind(piece, offsets[-1]) for piece in placed])
            states.append(state)
            offsets.append(offsets[-1] + growth)
        kinds = [book.kind(name) for name in signature.arguments()]
        self._convention = convention
        self._signature = signature
        self._pieces = arguments
        self._bits = [bits_in(pieces) for pieces in arguments]
        self._fills = [cut_fill(fills, kind, pieces) for kind, pieces in zip(kinds, arguments)]
        self._states = states
        self._offsets = offsets

    @property
    def convention(self):
        """The convention that lays out."""
        return self._convention

    @property
    def signature(self):
        """The signature that is laid out."""
        return self._signature

    @property
    def end(self):
        """The offset behind the last letter."""
        return self._offsets[-1]

    def pieces(self, argument):
        """The places of an argument, that with the lower bits first."""
        return list(self._pieces[argument_number(self, argument)])

    def bits_of(self, argument):
        """How many bits the pieces of an argument have together."""
        return self._bits[argument_number(self, argument)]

    def fill(self, argument):
        """The fill of an argument, cut at the bits of its pieces."""
        return self._fills[argument_number(self, argument)]

    def states(self):
        """The states, that of the empty signature first, then that behind each letter."""
        return list(self._states)

    def offsets(self):
        """The offsets: that of the empty signature first, then that behind each letter."""
        return list(self._offsets)

    def __len__(self):
        return len(self._pieces)

    def __eq__(self, other):
        if not isinstance(other, Layout):
            return False
        return self._convention == other._convention and self._signature == other._signature
