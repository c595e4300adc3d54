"""Steps of adapters: what they read, do and write for one argument [62]."""

from unlikecalls.basics import is_count, is_list
from unlikecalls.errors import InvalidStep
from unlikecalls.fills import Work
from unlikecalls.places import Next, Register

MOST_PLACES = 2


class Step:
    """One or two reads, a work, one or two writes, and the next state."""

    def __init__(self, reads, work, writes, next_state=0):
        if not are_places(reads):
            raise InvalidStep("reads")
        if not isinstance(work, Work):
            raise InvalidStep("work")
        if not are_places(writes):
            raise InvalidStep("writes")
        if not is_count(next_state):
            raise InvalidStep("next")
        self._reads = list(reads)
        self._work = work
        self._writes = list(writes)
        self._next_state = next_state

    @property
    def work(self):
        """What is done on the bits between the reads and the writes."""
        return self._work

    @property
    def next_state(self):
        """The number of the state behind the step."""
        return self._next_state

    def reads(self):
        """The registers and nexts that are read, in sequence."""
        return list(self._reads)

    def writes(self):
        """The registers and nexts that are written, in sequence."""
        return list(self._writes)

    def is_like(self, other):
        """Whether both read and write the same, and do works that are like each other."""
        if not isinstance(other, Step):
            raise InvalidStep(None)
        if self._reads != other._reads or self._writes != other._writes:
            return False
        return self._work.is_like(other._work)

    def __eq__(self, other):
        if not isinstance(other, Step):
            return False
        if self._reads != other._reads or self._writes != other._writes:
            return False
        return self._work == other._work and self._next_state == other._next_state


def are_places(value):
    """Whether value is a list of one or two registers and nexts."""
    if not is_list(value) or not 1 <= len(value) <= MOST_PLACES:
        return False
    return all([isinstance(place, (Register, Next)) for place in value])
