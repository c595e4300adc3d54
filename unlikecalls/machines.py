"""Machines: what a convention does from state to state, with a number for each state, kept once it is worked out."""

from unlikecalls.fills import SIGN, Work
from unlikecalls.layouts import OFFSET_AT, OFFSET_MODULUS, bits_in, pieces_from, take_registers

# A state is told by one number, its CODE, by which states stand in the same sequence as tuples do. Each number of the
# state is one of so many, and so there are as many codes.
RADIXES = (4, 4, 2, 2, 2, 16)
CODES = 2048
# A bit of an argument whose value is not known beforehand: its number plus 1, if it is one of the value; 0, which is
# what works put there, if it is 0; another number, if it is garbage.
ZERO = 0
CALLS_GARBAGE = -1


def code_of(state):
    """The code of a state."""
    code = 0
    for number, radix in zip(state, RADIXES):
        code = code * radix + number
    return code


def state_of(code):
    """The state with this code."""
    numbers = []
    for radix in RADIXES[::-1]:
        numbers.append(code % radix)
        code = code // radix
    return tuple(numbers[::-1])


class Standing:
    """How an argument of a kind stands in so many bits: with its fill, cut."""

    def __init__(self, kind, fill, many):
        self.room = many
        self.value_bits = kind.width
        self.cut_fill = fill.cut(kind.width, many)
        self.fill_key = (self.cut_fill.word, self.cut_fill.extent)
        self.doing = Work() + self.cut_fill
        # The bits that a callee may look at, and all of them.
        self.promised = [number + 1 for number in range(kind.width)]
        if not self.cut_fill.is_free:
            filling = kind.width if self.cut_fill.word == SIGN else ZERO
            self.promised.extend([filling] * (self.cut_fill.extent - kind.width))
        self.bit_row = self.promised + [CALLS_GARBAGE] * (many - len(self.promised))


class Placing:
    """Where an argument is put, with slots counted from the offset ahead of it."""

    def __init__(self, places, accesses, growth, standing):
        self.codes = [place.code() for place in places]
        # What reads or writes the places, if the pointer is the offset ahead.
        self.accesses = accesses
        self.growth = growth
        self.standing = standing


class Machine:
    """The states of a convention by their codes, and what letters do there, as far as they have been asked for."""

    def __init__(self, rules, kinds, fills):
        self._rules = rules
        self._kinds = kinds
        self._fills = fills
        self._mark = Placing([], [], 0, None)
        self._taken = {}
        self._placings = {}
        self._standings = {}
        self._moves = {}
        self._neighbour = None
        self._walk = None

    def moves(self, code):
        """What the letters do that may follow a state: a list of tuples (placing, code of the state behind).

        The first ones are those of the kinds, in sequence, the last one is that of the mark, where it has not come.
        """
        if code not in self._moves:
            self._moves[code] = self.find_moves(code)
        return self._moves[code]

    def find_moves(self, code):
        """What moves tells."""
        taken, offset = code // OFFSET_MODULUS, code % OFFSET_MODULUS
        moves = []
        for rank in range(len(self._kinds)):
            if (taken, rank) not in self._taken:
                self._taken[(taken, rank)] = self.take(taken, rank)
            begin, got, behind = self._taken[(taken, rank)]
            placing = self.placing_of(rank, begin, got, offset)
            moves.append((placing, behind * OFFSET_MODULUS + (offset + placing.growth) % OFFSET_MODULUS))
        if taken % 2 == 0:
            # The mark is the lowest number of what is taken.
            moves.append((self._mark, code + OFFSET_MODULUS))
        return moves

    def take(self, taken, rank):
        """What take_registers tells, with what is taken told by a number."""
        numbers = state_of(taken * OFFSET_MODULUS)[:OFFSET_AT]
        begin, got, behind = take_registers(self._rules[rank], numbers)
        return begin, got, code_of((*behind, 0)) // OFFSET_MODULUS

    def placing_of(self, rank, begin, got, offset):
        """The placing of an argument that gets so many registers from there on."""
        key = (rank, begin, got, offset)
        if key not in self._placings:
            rule = self._rules[rank]
            places, growth = pieces_from(rule, begin, got, offset)
            accesses = places if got == rule.needed else [*places[:got], rule.nexts[got]]
            self._placings[key] = Placing(places, accesses, growth, self.standing_of(rank, bits_in(places)))
        return self._placings[key]

    def standing_of(self, rank, many):
        """How an argument stands in so many bits."""
        if (rank, many) not in self._standings:
            self._standings[(rank, many)] = Standing(self._kinds[rank], self._fills[rank], many)
        return self._standings[(rank, many)]

    def kept_walk(self, neighbour):
        """The walk that was kept last, if it was for this neighbour; None otherwise."""
        return self._walk if neighbour == self._neighbour else None

    def keep_walk(self, neighbour, walk):
        """Keeps what was found out of this convention beside another one, told by its parts."""
        self._neighbour = neighbour
        self._walk = walk
