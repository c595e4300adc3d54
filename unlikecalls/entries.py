"""What adapters do, argument by argument: their runs [63], the faults of their steps [64], their entries [66].

An adapter is anything here that has the properties and methods of one; adapters.py makes use of this file.
"""

from unlikecalls.calls import garbage_frame, put_row
from unlikecalls.errors import TooMany
from unlikecalls.fills import SIGN, filled
from unlikecalls.layouts import OFFSET_AT, OFFSET_MODULUS, bits_in, piece_behind
from unlikecalls.places import Next, Register
from unlikecalls.sides import fill_at, letters_behind
from unlikecalls.signatures import Signature

MOST_ENTRIES = 1000
# Bits of a row whose values are not known beforehand. A bit of the value is written as its number plus 1, and the
# bit 0 as 0, which is what works put there.
ZERO = 0
CALLS_GARBAGE = -1
RUNS_GARBAGE = -2


class Passing:
    """How a step passes on an argument that stands in these pieces on both sides.

    The pointers are those ahead of the step; pieces and pointers are counted from the same byte on each side.
    """

    def __init__(self, adapter, step, name, pieces, others, pointers):
        self._kind = adapter.book.kind(name)
        self._fills = step.work.fills()
        self._pieces = pieces
        self._others = others
        self._fill = fill_at(adapter.first, name, pieces)
        self._wanted_fill = fill_at(adapter.second, name, others)
        self._reads, self._reading = places_from(step.reads(), pointers[0])
        self._writes, _ = places_from(step.writes(), pointers[1])

    def reading_behind(self):
        """The reading pointer behind the step."""
        return self._reading

    def fault(self):
        """The fault of the step; None if it is right."""
        for number, place in enumerate(self._reads):
            if bits_of_argument(place, self._pieces) is None:
                return "read", number
        for number, place in enumerate(self._writes):
            if number == len(self._others) or place != self._others[number]:
                return "write", number
        if len(self._writes) < len(self._others):
            return "write", len(self._writes)
        bit = self.wrong_bit()
        return None if bit is None else ("bit", bit)

    def wrong_bit(self):
        """The lowest bit that can be wrong, if the reads and writes are right; None if there is none."""
        found = self.found()
        for position, bit in enumerate(self.wanted()):
            if found[position] != bit:
                return position
        return None

    def wanted(self):
        """The bits that the callee may look at."""
        return promised(self._kind.width, self._wanted_fill)

    def found(self):
        """The bits that are written."""
        stands = promised(self._kind.width, self._fill)
        stands = fitted(stands, bits_in(self._pieces), CALLS_GARBAGE)
        row = []
        for place in self._reads:
            row.extend([stands[number] for number in bits_of_argument(place, self._pieces)])
        row = fitted(row, bits_in(self._others), RUNS_GARBAGE)
        return filled(self._fills, row, self._kind.width)

    def wrong_value(self):
        """A value by which the lowest bit that can be wrong is wrong, if all bits of garbage are 1."""
        position = self.wrong_bit()
        found, wanted = self.found()[position], self.wanted()[position]
        if found in (CALLS_GARBAGE, RUNS_GARBAGE):
            return 0
        return 1 << (wanted if found == ZERO else found) - 1


def promised(width, fill):
    """The bits of a value with this width and of its fill."""
    bits = [number + 1 for number in range(width)]
    if fill.is_free:
        return bits
    return bits + [width if fill.word == SIGN else ZERO] * (fill.extent - width)


def fitted(row, many, missing):
    """The row cut, or filled up, to so many bits."""
    return row[:many] + [missing] * (many - len(row))


def bits_of_argument(place, pieces):
    """The numbers of the argument's bits that a place has, which lies within one of the pieces; None if it does not."""
    ahead = 0
    for piece in pieces:
        if isinstance(piece, Register):
            if place == piece:
                return list(range(ahead, ahead + piece.bits))
        elif not isinstance(place, Register) and piece.offset <= place.offset and place.end <= piece.end:
            begin = ahead + 8 * (place.offset - piece.offset)
            return list(range(begin, begin + place.bits))
        ahead += piece.bits
    return None


def places_from(parts, pointer):
    """The places that these registers and nexts mean, and the pointer behind them."""
    places = []
    for part in parts:
        if isinstance(part, Next):
            slots = part.from_offset(pointer)
            places.append(slots)
            pointer = slots.end
        else:
            places.append(part)
    return places, pointer


def follow(adapter, signature):
    """The state, the reading and the writing pointer ahead of each letter, and behind the last one."""
    state, reading, writing = 0, adapter.first.home, adapter.second.home
    rows = [(state, reading, writing)]
    for letter in signature.letters():
        if letter == Signature.MARK:
            state = adapter.mark(state)
        else:
            step = adapter.step(state, letter)
            _, reading = places_from(step.reads(), reading)
            _, writing = places_from(step.writes(), writing)
            state = step.next_state
        rows.append((state, reading, writing))
    return rows


def run(adapter, signature, frame, garbage):
    """The frame that the adapter makes of this one."""
    rows = follow(adapter, signature)
    made = garbage_frame(garbage, rows[-1][2])
    for position, letter in enumerate(signature.letters()):
        if letter == Signature.MARK:
            continue
        state, reading, writing = rows[position]
        step = adapter.step(state, letter)
        reads, _ = places_from(step.reads(), reading)
        writes, _ = places_from(step.writes(), writing)
        row = []
        for place in reads:
            row.extend(known_bits(frame, place))
        work = step.work
        row = work(fitted(row, bits_in(writes), None), adapter.book.kind(letter).width)
        put_row(made, writes, row)
    return made


def known_bits(frame, place):
    """The bits of a place, None for those behind the area."""
    bits = frame.bits_at(place)
    if isinstance(place, Register):
        return bits
    known = 8 * max(0, frame.size - place.offset)
    return fitted(bits[:known], place.bits, None)


def passings(adapter, signature):
    """How the adapter passes on the arguments of a signature, a list."""
    rows = follow(adapter, signature)
    layout, other = adapter.first >> signature, adapter.second >> signature
    passed = []
    for position, letter in enumerate(signature.letters()):
        if letter == Signature.MARK:
            continue
        state, reading, writing = rows[position]
        pieces, others = layout.pieces(len(passed)), other.pieces(len(passed))
        step = adapter.step(state, letter)
        passed.append(Passing(adapter, step, letter, pieces, others, (reading, writing)))
    return passed


def entry_of(adapter, signature):
    """The entry that a signature leads to."""
    layout, other = adapter.first >> signature, adapter.second >> signature
    state, reading, _ = follow(adapter, signature)[-1]
    return layout.states()[-1], other.states()[-1], state, reading - layout.end


def walk_entries(adapter):
    """A tuple: a dict from the reached entries to the letters of the first signatures that lead to them, and the
    first signature for which the adapter is not right, None if there is none.
    """
    start = (adapter.first.start(), adapter.second.start(), 0, 0)
    ways = {start: ()}
    queue = [start]
    wrong = None
    at = 0
    while at < len(queue):
        reached = queue[at]
        at += 1
        for letter in letters_behind(adapter.book, reached[0]):
            behind = entry_behind(adapter, reached, letter)
            if behind is None and wrong is None:
                wrong = [*ways[reached], letter]
            if behind is not None and behind not in ways:
                ways[behind] = ways[reached] + (letter,)
                queue.append(behind)
        if len(queue) > MOST_ENTRIES:
            raise TooMany("entries", MOST_ENTRIES)
    if wrong is None:
        return ways, None
    book = adapter.book
    return ways, Signature(book, *wrong)


def entry_behind(adapter, reached, letter):
    """The entry behind a letter from a reached one; None if its step is wrong there."""
    state, other_state, number, gap = reached
    pieces, state_behind, growth = adapter.first.step(state, letter)
    others, other_state_behind, _ = adapter.second.step(other_state, letter)
    if letter == Signature.MARK:
        return state_behind, other_state_behind, adapter.mark(number), gap
    # Only what is left of offsets by 16 matters. The reading pointer lies less than 16 bytes ahead of the offset,
    # and behind right steps the writing pointer is the offset.
    offset, other_offset = state[OFFSET_AT] + OFFSET_MODULUS, other_state[OFFSET_AT]
    pieces = [piece_behind(piece, offset) for piece in pieces]
    others = [piece_behind(piece, other_offset) for piece in others]
    step = adapter.step(number, letter)
    passing = Passing(adapter, step, letter, pieces, others, (offset + gap, other_offset))
    if passing.fault() is not None:
        return None
    gap = passing.reading_behind() - offset - growth
    return state_behind, other_state_behind, step.next_state, gap
