"""Steps of adapters: what they read, do and write for one argument [62]."""

from unlikecalls.basics import is_count, is_list
from unlikecalls.errors import InvalidStep
from unlikecalls.fills import Work
from unlikecalls.places import Next, Register

MOST_PLACES = 2


class Step:
    """One or two reads, a work, one or two writes, and the next state."""

    def __init__(self, reads, work, writes, next_state=0):
        if not are_places(reads):
            raise InvalidStep("reads")
        if not isinstance(work, Work):
            raise InvalidStep("work")
        if not are_places(writes):
            raise InvalidStep("writes")
        if not is_count(next_state):
            raise InvalidStep("next")
        self._reads = list(reads)
        self._work = work
        self._writes = list(writes)
        self._next_state = next_state
        self._codes = (tuple([read.code() for read in reads]), tuple([write.code() for write in writes]))
        self._shape = None

    @property
    def work(self):
        """What is done on the bits between the reads and the writes."""
        return self._work

    @property
    def next_state(self):
        """The number of the state behind the step."""
        return self._next_state

    def reads(self):
        """The registers and nexts that are read, in sequence."""
        return list(self._reads)

    def writes(self):
        """The registers and nexts that are written, in sequence."""
        return list(self._writes)

    def reads_from(self, pointer):
        """The places that are read if the reading pointer stands there, and the pointer behind them."""
        return places_behind(self._reads, pointer)

    def writes_from(self, pointer):
        """The places that are written if the writing pointer stands there, and the pointer behind them."""
        return places_behind(self._writes, pointer)

    def place_codes(self):
        """The codes of the reads, and those of the writes: two tuples."""
        return self._codes

    def shape(self):
        """A tuple that is the same for the steps that are like this one."""
        if self._shape is None:
            plain = self._work.plain().fills()
            self._shape = (self._codes, tuple([(fill.word, fill.extent) for fill in plain]))
        return self._shape

    def is_like(self, other):
        """Whether both read and write the same, and do works that are like each other."""
        if not isinstance(other, Step):
            raise InvalidStep(None)
        return self.shape() == other.shape()

    def __eq__(self, other):
        if not isinstance(other, Step):
            return False
        if self._codes != other._codes or self._next_state != other._next_state:
            return False
        return self._work == other._work


def are_places(value):
    """Whether value is a list of one or two registers and nexts."""
    if not is_list(value) or not 1 <= len(value) <= MOST_PLACES:
        return False
    return all([isinstance(place, (Register, Next)) for place in value])


def places_behind(parts, pointer):
    """The places that these registers and nexts mean, and the pointer behind them."""
    places = []
    for part in parts:
        if isinstance(part, Next):
            part = part.from_offset(pointer)
            pointer = part.end
        places.append(part)
    return places, pointer
