"""Layouts: where the arguments of a signature stand [31], [32], [33].

A convention hands over a Rule for each kind of its book, and its fills, both as dicts by the names of the kinds. What
they tell has been checked by then.
"""

from unlikecalls.basics import is_between
from unlikecalls.errors import InvalidNumber
from unlikecalls.fills import Fill
from unlikecalls.places import GROUPS, Next, Register, next_multiple
from unlikecalls.signatures import Signature

FIRST_STATE = (0, 0, 0, 0, 0, 0)
CLOSED_AT = 2
MARK_AT = 4
OFFSET_AT = 5
OFFSET_MODULUS = 16
HALF_SIZE = 8


class Rule:
    """How a convention with these options places the arguments of one kind."""

    def __init__(self, options, kind):
        self.group_at = GROUPS.index(kind.group)
        self.needed = 2 if kind.is_double else 1
        self.limit = options["wholes" if kind.group == "whole" else "floats"]
        self.ceiling = max(int(options["wholes"]), int(options["floats"]))
        self.is_even = kind.is_double and options["doubles"] == "even"
        self.is_split = kind.is_double and options["doubles"] == "split"
        self.is_together = options["together"]
        self.is_again = options["again"]
        self.is_tail_sent = options["tail"] == "slots"
        self.bank = [Register(kind.group, number) for number in range(self.limit)]
        # What finds the slots of an argument that got no register, and of one that got one less than it needs.
        self.nexts = (next_slots(options, kind, 0), next_slots(options, kind, 1))


def next_slots(options, kind, got):
    """The Next that finds the slots of an argument that got so many registers, less than it needs."""
    slot = options["slot"]
    size, align = kind.size, kind.align
    if got > 0:
        size = HALF_SIZE
        align = align if align < HALF_SIZE else HALF_SIZE
    boundary = align if options["natural"] and align > slot else slot
    return Next(boundary, next_multiple(size, slot))


def place_letter(rules, state, letter):
    """A tuple: the pieces of a letter, the next state, and by how much the offset grows.

    The offsets of slots are counted from the offset ahead of the letter.
    """
    offset = state[OFFSET_AT]
    if letter == Signature.MARK:
        return [], (*state[:MARK_AT], 1, offset), 0
    rule = rules[letter]
    begin, got, taken = take_registers(rule, state[:OFFSET_AT])
    pieces, growth = pieces_from(rule, begin, got, offset)
    return pieces, (*taken, (offset + growth) % OFFSET_MODULUS), growth


def take_registers(rule, taken):
    """A tuple: the number of the register where an argument begins, how many it gets, and what is taken behind it.

    What is taken are the first five numbers of a state.
    """
    if taken[CLOSED_AT + rule.group_at] == 1 or taken[MARK_AT] == 1 and rule.is_tail_sent:
        return 0, 0, taken
    used = taken[rule.group_at]
    begin = next_multiple(used, 2) if rule.is_even else used
    got = 0
    if begin + rule.needed <= rule.limit:
        got = rule.needed
    elif begin + 1 == rule.limit and rule.is_split:
        got = 1
    behind = list(taken)
    touched = [0, 1] if rule.is_together else [rule.group_at]
    for group in touched:
        behind[group] = used_behind(rule, used, begin, got)
        if got < rule.needed and not rule.is_again:
            behind[CLOSED_AT + group] = 1
    return begin, got, tuple(behind)


def used_behind(rule, used, begin, got):
    """How many registers are used up behind an argument that was not sent to slots."""
    if not rule.is_together:
        return begin + got if got > 0 else used
    # An argument that lacks registers uses up those that it would have had.
    behind = begin + rule.needed
    return behind if behind < rule.ceiling else rule.ceiling


def pieces_from(rule, begin, got, offset):
    """The pieces of an argument that got so many registers from there on, and by how much the offset grows.

    Of the offset only what is left by 16 is told, which is all that a boundary asks for.
    """
    pieces = rule.bank[begin:begin + got]
    if got == rule.needed:
        return pieces, 0
    slots = rule.nexts[got].from_offset(offset) - offset
    return [*pieces, slots], slots.end


def piece_behind(piece, offset):
    """A piece whose slots were counted from this offset, as it stands in the area."""
    if isinstance(piece, Register):
        return piece
    return piece + offset


def fill_of(fills, name):
    """The fill of a kind, FREE if none is told."""
    if name in fills:
        return fills[name]
    return Fill()


def bits_in(pieces):
    """How many bits these pieces have together."""
    return sum([piece.bits for piece in pieces])


def cut_fills(signature, fills, bits):
    """The fill of each argument, cut at as many bits as are told for it."""
    known = {}
    cuts = []
    for name, many in zip(signature.arguments(), bits):
        if (name, many) not in known:
            known[(name, many)] = fills[name].cut(signature.book.kind(name).width, many)
        cuts.append(known[(name, many)])
    return cuts


def argument_number(layout, value):
    """The value, if it is the number of an argument."""
    if not is_between(value, 0, len(layout) - 1):
        raise InvalidNumber(value)
    return value


class Layout:
    """Where a convention puts the arguments of a signature. It is made by convention >> signature only."""

    def __init__(self, convention, signature, rules, fills):
        # Letters that follow the same state are placed once.
        known = {}
        arguments = []
        states = [FIRST_STATE]
        offset = convention.home
        offsets = [offset]
        for letter in signature.letters():
            key = (states[-1], letter)
            if key not in known:
                known[key] = place_letter(rules, states[-1], letter)
            placed, state, growth = known[key]
            if letter != Signature.MARK:
                arguments.append([piece_behind(piece, offset) for piece in placed])
            offset = offset + growth
            states.append(state)
            offsets.append(offset)
        self._convention = convention
        self._signature = signature
        self._pieces = arguments
        self._bits = [bits_in(pieces) for pieces in arguments]
        self._fills = cut_fills(signature, fills, self._bits)
        self._states = states
        self._offsets = offsets

    @property
    def convention(self):
        """The convention that lays out."""
        return self._convention

    @property
    def signature(self):
        """The signature that is laid out."""
        return self._signature

    @property
    def end(self):
        """The offset behind the last letter."""
        return self._offsets[-1]

    def pieces(self, argument):
        """The places of an argument, that with the lower bits first."""
        return list(self._pieces[argument_number(self, argument)])

    def bits_of(self, argument):
        """How many bits the pieces of an argument have together."""
        return self._bits[argument_number(self, argument)]

    def fill(self, argument):
        """The fill of an argument, cut at the bits of its pieces."""
        return self._fills[argument_number(self, argument)]

    def states(self):
        """The states, that of the empty signature first, then that behind each letter."""
        return list(self._states)

    def offsets(self):
        """The offsets: that of the empty signature first, then that behind each letter."""
        return list(self._offsets)

    def __len__(self):
        return len(self._pieces)

    def __eq__(self, other):
        if not isinstance(other, Layout):
            return False
        return self._convention == other._convention and self._signature == other._signature
