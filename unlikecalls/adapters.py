"""Adapters: small programs that lead from one convention to another one [61] to [68]."""

from unlikecalls.basics import is_between, is_list
from unlikecalls.conventions import check_convention
from unlikecalls.entries import MOST_ENTRIES, MOST_STATES, run, walk_entries
from unlikecalls.errors import (
    InvalidAdapter,
    InvalidNumber,
    InvalidStates,
    NotRight,
    OtherConvention,
    TooMany,
)
from unlikecalls.fills import Work, plain_fills
from unlikecalls.frames import check_bytes, check_frame
from unlikecalls.kinds import check_one_book
from unlikecalls.signatures import Signature, check_signature
from unlikecalls.steps import Step
from unlikecalls.walks import walk_both


class Adapter:
    """A small program that is called by one convention and calls by another one."""

    def __init__(self, first, second, states, marks):
        check_convention(first)
        check_convention(second)
        check_states(first.book, states, marks)
        check_one_book([first, second])
        names = first.book.names()
        self._first = first
        self._second = second
        # The steps of each state, in the sequence of the book.
        self._rows = [[state[name] for name in names] for state in states]
        self._marks = list(marks)
        self._walk = None
        self._merged = None

    @classmethod
    def made(cls, first, second):
        """An adapter that is right for all signatures."""
        rows = walk_both(first, second).rows
        names = first.book.names()
        states = []
        marks = []
        for number, row in enumerate(rows):
            state = {}
            for name, (steps, behind) in zip(names, row):
                placing, other = steps[0][0], steps[1][0]
                state[name] = Step(placing.accesses, other.standing.doing, other.accesses, behind)
            states.append(state)
            # Where the mark came already, it may lead anywhere.
            marks.append(row[-1][1] if len(row) > len(names) else number)
        return cls(first, second, states, marks)

    @property
    def first(self):
        """The convention by which the adapter is called."""
        return self._first

    @property
    def second(self):
        """The convention by which the adapter calls."""
        return self._second

    @property
    def book(self):
        """The book of both conventions."""
        return self._first.book

    def step(self, state, name):
        """The step of a state for a kind."""
        if not is_between(state, 0, len(self._rows) - 1):
            raise InvalidNumber(state)
        return self._rows[state][self._first.book.number_of(name)]

    def mark(self, state):
        """The state to which the mark leads from a state."""
        if not is_between(state, 0, len(self._rows) - 1):
            raise InvalidNumber(state)
        return self._marks[state]

    def steps_at(self, state):
        """The steps of a state, in the sequence of the book."""
        return self._rows[state]

    def state_behind(self, state, letter):
        """The state to which a letter leads from a state."""
        if letter == Signature.MARK:
            return self._marks[state]
        return self._rows[state][self._first.book.number_of(letter)].next_state

    def states_behind(self, state):
        """The states to which the letters lead from a state, in their sequence."""
        return [*[step.next_state for step in self._rows[state]], self._marks[state]]

    def __call__(self, signature, frame, garbage=()):
        check_signature(signature)
        check_frame(frame)
        check_bytes(garbage)
        check_one_book([self, signature])
        return run(self, signature, frame, garbage)

    def entry_walk(self):
        """The walk through the reached entries, which are not too many."""
        if self._walk is None:
            self._walk = walk_entries(self)
        if self._walk.is_cut:
            raise TooMany("entries", MOST_ENTRIES)
        return self._walk

    def then(self, other):
        """The adapter that does what this one does, and then the other one."""
        check_adapter(other)
        if self._second != other._first:
            raise OtherConvention(self._second, other._first)
        walks = [self.entry_walk(), other.entry_walk()]
        book = self.book
        for walk in walks:
            letters = walk.wrong
            if letters is not None:
                raise NotRight(Signature(book, *letters))
        return put_behind(self, other)

    def merged(self):
        """The adapter that does the same with as few states as possible."""
        if self._merged is None:
            self._merged = merge(self)
        return self._merged

    def first_other(self, adapter):
        """The first row of letters for whose last one the steps differ; None if there is none."""
        check_adapter(adapter)
        if self._first != adapter._first:
            raise OtherConvention(self._first, adapter._first)
        if self._second != adapter._second:
            raise OtherConvention(self._second, adapter._second)
        return first_other_row(self, adapter)

    def is_same(self, adapter):
        """Whether both adapters do the same."""
        return self.first_other(adapter) is None

    def __len__(self):
        return len(self._rows)

    def __eq__(self, other):
        if not isinstance(other, Adapter):
            return False
        if self._first != other._first or self._second != other._second:
            return False
        return self._rows == other._rows and self._marks == other._marks


def check_adapter(value):
    """Refuses what is no adapter."""
    if not isinstance(value, Adapter):
        raise InvalidAdapter(value)


def check_states(book, states, marks):
    """Refuses what are no states of an adapter for this book, with the states to which the mark leads."""
    if not is_list(states) or not is_list(marks) or len(states) == 0 or len(marks) != len(states):
        raise InvalidStates(None)
    if len(states) > MOST_STATES:
        raise TooMany("states", MOST_STATES)
    for position, state in enumerate(states):
        if not is_state(book, state, len(states)) or not is_between(marks[position], 0, len(states) - 1):
            raise InvalidStates(position)


def is_state(book, value, many):
    """Whether value is a dict from exactly the names of the book to steps that lead to one of so many states."""
    if not isinstance(value, dict) or len(value) != len(book):
        return False
    return all([name in book and isinstance(step, Step) and step.next_state < many for name, step in value.items()])


def merge(adapter):
    """The adapter that does the same as this one with as few states as possible."""
    classes = state_classes(adapter)
    # Any state of a class will do, since all of them go on alike; classes are numbered as they come first.
    samples = []
    for state, one in enumerate(classes):
        if one == len(samples):
            samples.append(state)
    rows = [[classes[state] for state in adapter.states_behind(sample)] for sample in samples]
    order = reached_by_rows(classes[0], lambda one: rows[one])
    numbers = {one: number for number, one in enumerate(order)}
    names = adapter.book.names()
    states = []
    for one in order:
        state = {}
        for name, step, behind in zip(names, adapter.steps_at(samples[one]), rows[one]):
            state[name] = Step(step.reads(), step.work.plain(), step.writes(), numbers[behind])
        states.append(state)
    return Adapter(adapter.first, adapter.second, states, [numbers[rows[one][-1]] for one in order])


def reached_by_rows(start, behind):
    """What rows of letters lead to from start on, as rows in order reach it first."""
    reached = [start]
    seen = {start: True}
    at = 0
    while at < len(reached):
        for state in behind(reached[at]):
            if state not in seen:
                seen[state] = True
                reached.append(state)
        if len(reached) > MOST_STATES:
            raise TooMany("states", MOST_STATES)
        at += 1
    return reached


def put_behind(adapter, other):
    """The adapter that does what the first one does and then the other one, both right for all signatures."""
    names = adapter.book.names()
    pairs = reached_by_rows((0, 0), lambda pair: pairs_behind(adapter, other, pair))
    numbers = {pair: number for number, pair in enumerate(pairs)}
    states = []
    marks = []
    for pair in pairs:
        behind = [numbers[one] for one in pairs_behind(adapter, other, pair)]
        state = {}
        for name, step, later, number in zip(names, adapter.steps_at(pair[0]), other.steps_at(pair[1]), behind):
            state[name] = joined_step(step, later, number)
        states.append(state)
        marks.append(behind[-1])
    return Adapter(adapter.first, other.second, states, marks)


def pairs_behind(adapter, other, pair):
    """The pairs of states to which the letters lead from these states of two adapters, in their sequence."""
    return list(zip(adapter.states_behind(pair[0]), other.states_behind(pair[1])))


def joined_step(step, other, next_state):
    """The step that does what the first one does and then the other one."""
    # Joined as fills, since two works may have more fills together than a work may have.
    fills = plain_fills(step.work.fills() + other.work.fills())
    return Step(step.reads(), Work(*fills), other.writes(), next_state)


def state_classes(adapter):
    """A number for each state, from 0 on, as they come first: the same one for those that do the same for all rows."""
    rows = [adapter.states_behind(state) for state in range(len(adapter))]
    classes, many = numbered(shapes_of(adapter))
    before = 0
    while before < many:
        # States are parted as long as letters lead from them to states that are parted.
        before = many
        classes, many = numbered([(classes[state], *[classes[one] for one in row]) for state, row in enumerate(rows)])
    return classes


def shapes_of(adapter):
    """For each state the shapes of its steps, as a tuple."""
    return [tuple([step.shape() for step in adapter.steps_at(state)]) for state in range(len(adapter))]


def numbered(keys):
    """A number for each key, from 0 on, as they come first, the same one for equal keys; and how many there are."""
    numbers = {}
    found = [numbers.setdefault(key, len(numbers)) for key in keys]
    return found, len(numbers)


def first_other_row(adapter, other):
    """The first row of letters for whose last one the steps of two adapters differ; None if there is none."""
    shapes, other_shapes = shapes_of(adapter), shapes_of(other)
    letters = [*adapter.book.names(), Signature.MARK]
    many = len(adapter)
    # States that have a root in common do the same, or are still to be compared by rows that are not longer; so
    # a pair of them needs no look of its own. Those of the other adapter are counted on behind those of this one.
    roots = list(range(many + len(other)))
    roots[many] = 0
    queue = [((), (0, 0))]
    at = 0
    while at < len(queue):
        row, pair = queue[at]
        for letter, shape, other_shape in zip(letters, shapes[pair[0]], other_shapes[pair[1]]):
            if shape != other_shape:
                return [*row, letter]
        for letter, behind in zip(letters, pairs_behind(adapter, other, pair)):
            root, other_root = root_of(roots, behind[0]), root_of(roots, many + behind[1])
            if root != other_root:
                roots[other_root] = root
                queue.append(((*row, letter), behind))
        at += 1
    return None


def root_of(roots, number):
    """The root of a number, which is its own one."""
    while roots[number] != number:
        roots[number] = roots[roots[number]]
        number = roots[number]
    return number
