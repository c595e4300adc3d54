"""What adapters do, argument by argument: their runs [63], the faults of their steps [64], their entries [66].

An adapter is anything here that has the properties and methods of one; adapters.py makes use of this file.
Places are told by two numbers, as codes of pieces are, with slots counted from the offset ahead of the argument.
"""

from unlikecalls.calls import garbage_frame, ones, put_pieces
from unlikecalls.fills import SIGN, filled
from unlikecalls.layouts import OFFSET_MODULUS
from unlikecalls.machines import CALLS_GARBAGE, CODES, ZERO, state_of
from unlikecalls.places import REGISTER_BITS, Register
from unlikecalls.signatures import Signature
from unlikecalls.walks import letters_to

MOST_STATES = 400
MOST_ENTRIES = 1000
# Behind right steps the reading pointer lies less than so many bytes ahead of the first convention's offset.
GAPS = 16
RUNS_GARBAGE = -2


def places_from(codes, pointer, offset):
    """The places that the registers and nexts with these codes mean, and the pointer behind them."""
    places = []
    for one, many in codes:
        if many > 0:
            begin = (pointer + one - 1) // one * one
            pointer = begin + many
            places.append((begin - offset, many))
        else:
            places.append((one, many))
    return places, pointer


def span_at(place, pieces):
    """The numbers of the first of the argument's bits that a place has, and behind its last one.

    None if the place is not one of the pieces and does not lie within one of them.
    """
    begin, many = place
    ahead = 0
    for piece_begin, piece_many in pieces:
        if piece_many == 0:
            if many == 0 and begin == piece_begin:
                return ahead, ahead + REGISTER_BITS
            ahead += REGISTER_BITS
        else:
            if many > 0 and piece_begin <= begin and begin + many <= piece_begin + piece_many:
                ahead += 8 * (begin - piece_begin)
                return ahead, ahead + 8 * many
            ahead += 8 * piece_many
    return None


def fault_of(step, placing, other, reads, writes):
    """The fault of a step that reads and writes there, for an argument placed so on both sides; None if it is right."""
    spans = [span_at(place, placing.codes) for place in reads]
    if None in spans:
        return "read", spans.index(None)
    if writes != other.codes:
        return "write", first_difference(writes, other.codes)
    written, wanted = bits_written(step, placing, other, spans), other.standing.promised
    if written[:len(wanted)] == wanted:
        return None
    return "bit", first_difference(written, wanted)


def first_difference(row, wanted):
    """The first position at which a row has something else than wanted, or is too short, or too long."""
    for position, one in enumerate(wanted):
        if position == len(row) or row[position] != one:
            return position
    return len(wanted)


def bits_written(step, placing, other, spans):
    """The bits that a step writes that reads these spans of an argument's bits."""
    row = []
    for begin, end in spans:
        row.extend(placing.standing.bit_row[begin:end])
    room = other.standing.room
    row = row[:room] + [RUNS_GARBAGE] * (room - len(row))
    return filled(step.work.fills(), row, placing.standing.value_bits)


class Follower:
    """An adapter on its way through letters, beside its conventions.

    Of its pairs, the first one is that of the first convention, the second one that of the second.
    """

    def __init__(self, adapter):
        self.adapter = adapter
        self.machine_pair = (adapter.first.machine(), adapter.second.machine())
        self.code_pair = (0, 0)
        self.offset_pair = (adapter.first.home, adapter.second.home)
        self.pointer_pair = self.offset_pair
        self.at = 0

    def go(self, letter):
        """Goes on by a letter."""
        if letter == Signature.MARK:
            moves = self.moves_for(len(self.adapter.book))
        else:
            moves = self.moves_for(self.adapter.book.number_of(letter))
            _, reading, _, writing = self.reach(letter)
            self.pointer_pair = (reading, writing)
        self.at = self.adapter.state_behind(self.at, letter)
        offset, other_offset = self.offset_pair
        self.offset_pair = (offset + moves[0][0].growth, other_offset + moves[1][0].growth)
        self.code_pair = (moves[0][1], moves[1][1])

    def moves_for(self, rank):
        """The moves of both conventions for the letter with this number."""
        machine, other_machine = self.machine_pair
        code, other_code = self.code_pair
        return machine.moves(code)[rank], other_machine.moves(other_code)[rank]

    def reach(self, name):
        """What the step for an argument reads, the pointer behind it, what it writes, and the pointer behind it."""
        codes, other_codes = self.adapter.step(self.at, name).place_codes()
        reads, reading = places_from(codes, self.pointer_pair[0], self.offset_pair[0])
        writes, writing = places_from(other_codes, self.pointer_pair[1], self.offset_pair[1])
        return reads, reading, writes, writing

    def fault_at(self, name):
        """The fault of the step for an argument that comes next; None if it is right."""
        (placing, _), (other, _) = self.moves_for(self.adapter.book.number_of(name))
        reads, _, writes, _ = self.reach(name)
        return fault_of(self.adapter.step(self.at, name), placing, other, reads, writes)

    def wrong_value(self, name):
        """A value of the argument that comes next by which its wrong bit is wrong, if all bits of garbage are 1."""
        (placing, _), (other, _) = self.moves_for(self.adapter.book.number_of(name))
        reads, _, _, _ = self.reach(name)
        spans = [span_at(place, placing.codes) for place in reads]
        written, wanted = bits_written(self.adapter.step(self.at, name), placing, other, spans), other.standing.promised
        position = first_difference(written, wanted)
        if written[position] in (CALLS_GARBAGE, RUNS_GARBAGE):
            return 0
        return 1 << ((wanted if written[position] == ZERO else written)[position] - 1)


def follow(adapter, letters):
    """A follower behind these letters."""
    follower = Follower(adapter)
    for letter in letters:
        follower.go(letter)
    return follower


def is_right_for(adapter, letters):
    """Whether the steps of an adapter are right for all arguments of a signature with these letters."""
    follower = Follower(adapter)
    for letter in letters:
        if letter != Signature.MARK and follower.fault_at(letter) is not None:
            return False
        follower.go(letter)
    return True


def entry_of(adapter, signature):
    """The entry that a signature leads to."""
    follower = follow(adapter, signature.letters())
    code, other_code = follower.code_pair
    return state_of(code), state_of(other_code), follower.at, follower.pointer_pair[0] - follower.offset_pair[0]


def run(adapter, signature, frame, garbage):
    """The frame that the adapter makes of this one."""
    book = adapter.book
    widths = {kind.name: kind.width for kind in book.kinds()}
    at, reading, writing = 0, adapter.first.home, adapter.second.home
    written = []
    for letter in signature.letters():
        if letter != Signature.MARK:
            step = adapter.step(at, letter)
            reads, reading = step.reads_from(reading)
            writes, writing = step.writes_from(writing)
            written.append((step, reads, writes, widths[letter]))
        at = adapter.state_behind(at, letter)
    made = garbage_frame(garbage, writing)
    for step, reads, writes, width in written:
        number, known = known_bits(frame, reads)
        many = sum([place.bits for place in writes])
        number, known = worked(step.work.fills(), number & ones(many), known & ones(many), width, many)
        put_pieces(made, writes, number, known)
    return made


def known_bits(frame, places):
    """The bits of places, one place after another, as a number, and which are known: those behind the area are not."""
    number = known = 0
    for place in places[::-1]:
        many = place.bits
        if not isinstance(place, Register):
            many = 8 * max(0, int(frame.size - place.offset))
            many = many if many < place.bits else place.bits
        number = number << place.bits | frame.number_at(place)
        known = known << place.bits | ones(many)
    return number, known


def worked(fills, number, known, width, many):
    """What fills make of so many bits, and which are known then."""
    done = width
    top = ones(many) if width <= many and number >> (width - 1) & 1 == 1 else 0
    top_known = ones(many) if width <= many and known >> (width - 1) & 1 == 1 else 0
    # From the last fill back, so that each bit is set once.
    for fill in fills[::-1]:
        end = fill.extent if fill.extent < many else many
        if end > done:
            touched = ones(end) ^ ones(done)
            is_sign = fill.word == SIGN
            number = number & ~touched | (touched & top if is_sign else 0)
            known = known & ~touched | (touched & top_known if is_sign else touched)
            done = end
    return number, known


class EntryWalk:
    """The reached entries of an adapter, as signatures in order reach them by right steps.

    reached are the entries, with codes in the place of states; origins tells from which one and by which letter each
    was reached; wrong are the letters of the first signature for which the adapter is not right, None if there is none.
    """

    def __init__(self, adapter):
        self.alphabet = [*adapter.book.names(), Signature.MARK]
        self.reached = [(0, 0, 0, 0)]
        self.origins = [None]
        self.wrong = None
        self.is_cut = False
        self._entries = None
        self._ways = None

    def entry_at(self, number):
        """The entry with this number."""
        code, other_code, state, gap = self.reached[number]
        return state_of(code), state_of(other_code), state, gap

    def in_sequence(self):
        """The numbers of all entries, sorted by the entries."""
        numbers = {key_of(one): number for number, one in enumerate(self.reached)}
        in_order = sorted([int(key) for key in numbers])
        return [numbers[key] for key in in_order]

    def entries_in_sequence(self):
        """The entries, sorted, in a new list."""
        if self._entries is None:
            self._entries = [self.entry_at(number) for number in self.in_sequence()]
        return list(self._entries)

    def ways_in_sequence(self, book):
        """The tuples of an entry and the first signature that leads to it, sorted by entries, in a new list."""
        if self._ways is None:
            self._ways = []
            for number in self.in_sequence():
                letters = self.way_to(number)
                self._ways.append((self.entry_at(number), Signature(book, *letters)))
        return list(self._ways)

    def way_to(self, number):
        """The letters of the first signature that leads to an entry."""
        return letters_to(self.origins, self.alphabet, number)


def key_of(one):
    """A number for an entry, by which entries stand in the same sequence as tuples do."""
    code, other_code, state, gap = one
    return ((code * CODES + other_code) * MOST_STATES + state) * GAPS + GAPS - 1 + gap


def walk_entries(adapter):
    """The walk through the reached entries; it is cut where there are too many."""
    walk = EntryWalk(adapter)
    seen = {walk.reached[0]: True}
    at = 0
    while at < len(walk.reached) <= MOST_ENTRIES:
        for rank, behind in enumerate(entries_behind(adapter, walk.reached[at])):
            if behind is None:
                if walk.wrong is None:
                    walk.wrong = [*walk.way_to(at), walk.alphabet[rank]]
            elif behind not in seen:
                seen[behind] = True
                walk.reached.append(behind)
                walk.origins.append((at, rank))
        at += 1
    walk.is_cut = len(walk.reached) > MOST_ENTRIES
    return walk


def entries_behind(adapter, reached):
    """The entries behind the letters that may follow a reached one, in their sequence; None for wrong steps."""
    code, other_code, state, gap = reached
    moves, other_moves = adapter.first.machine().moves(code), adapter.second.machine().moves(other_code)
    # Only what is left of offsets by 16 matters: behind right steps the writing pointer is the offset.
    offset, other_offset = code % OFFSET_MODULUS + OFFSET_MODULUS, other_code % OFFSET_MODULUS
    found = []
    steps = adapter.steps_at(state)
    for rank, step in enumerate(steps):
        placing, behind = moves[rank]
        other, other_behind = other_moves[rank]
        codes, other_codes = step.place_codes()
        reads, reading = places_from(codes, offset + gap, offset)
        writes, _ = places_from(other_codes, other_offset, other_offset)
        if fault_of(step, placing, other, reads, writes) is None:
            found.append((behind, other_behind, step.next_state, reading - offset - placing.growth))
        else:
            found.append(None)
    if len(moves) > len(steps):
        found.append((moves[-1][1], other_moves[-1][1], adapter.mark(state), gap))
    return found
