"""Adapters: small programs that lead from one convention to another one [61] to [68]."""

from unlikecalls.basics import is_between, is_list
from unlikecalls.conventions import check_convention
from unlikecalls.entries import run, walk_entries
from unlikecalls.errors import (
    InvalidAdapter,
    InvalidNumber,
    InvalidStates,
    NotRight,
    OtherConvention,
    TooMany,
    UnknownKind,
)
from unlikecalls.fills import Work, plain_fills
from unlikecalls.frames import check_bytes, check_frame
from unlikecalls.kinds import check_one_book
from unlikecalls.places import Register
from unlikecalls.sides import fill_at, walk_both
from unlikecalls.signatures import Signature, check_signature
from unlikecalls.steps import Step

MOST_STATES = 400


class Adapter:
    """A small program that is called by one convention and calls by another one."""

    def __init__(self, first, second, states, marks):
        check_convention(first)
        check_convention(second)
        check_states(first.book, states, marks)
        check_one_book([first, second])
        names = first.book.names()
        self._first = first
        self._second = second
        self._states = [{name: state[name] for name in names} for state in states]
        self._marks = list(marks)

    @classmethod
    def made(cls, first, second):
        """An adapter that is right for all signatures."""
        rows = walk_both(first, second)
        numbers = {row[0]: number for number, row in enumerate(rows)}
        states = []
        marks = []
        for reached, _, moves in rows:
            behind = {letter: numbers[tuple([step[1] for step in moves[letter]])] for letter in moves}
            state = {}
            for name in first.book.names():
                pieces, others = moves[name][0][0], moves[name][1][0]
                reads, writes = parts_of(first, name, pieces), parts_of(second, name, others)
                state[name] = Step(reads, work_for(fill_at(second, name, others)), writes, behind[name])
            states.append(state)
            # Where the mark came already, it may lead anywhere.
            marks.append(behind.get(Signature.MARK, numbers[reached]))
        return cls(first, second, states, marks)

    @property
    def first(self):
        """The convention by which the adapter is called."""
        return self._first

    @property
    def second(self):
        """The convention by which the adapter calls."""
        return self._second

    @property
    def book(self):
        """The book of both conventions."""
        return self._first.book

    def step(self, state, name):
        """The step of a state for a kind."""
        if not is_between(state, 0, len(self._states) - 1):
            raise InvalidNumber(state)
        if name not in self._first.book:
            raise UnknownKind(name)
        return self._states[state][name]

    def mark(self, state):
        """The state to which the mark leads from a state."""
        if not is_between(state, 0, len(self._states) - 1):
            raise InvalidNumber(state)
        return self._marks[state]

    def state_behind(self, state, letter):
        """The state to which a letter leads from a state."""
        if letter == Signature.MARK:
            return self._marks[state]
        return self._states[state][letter].next_state

    def __call__(self, signature, frame, garbage=()):
        check_signature(signature)
        check_frame(frame)
        check_bytes(garbage)
        check_one_book([self, signature])
        return run(self, signature, frame, garbage)

    def then(self, other):
        """The adapter that does what this one does, and then the other one."""
        check_adapter(other)
        if self._second != other._first:
            raise OtherConvention(self._second, other._first)
        witnesses = [walk_entries(adapter)[1] for adapter in (self, other)]
        for witness in witnesses:
            if witness is not None:
                raise NotRight(witness)
        return put_behind(self, other)

    def merged(self):
        """The adapter that does the same with as few states as possible."""
        classes = state_classes(self)
        # Any state of a class will do, since all of them go on alike.
        samples = [classes.index(number) for number in range(max(classes) + 1)]
        letters = letters_of(self)
        behind = [{letter: classes[self.state_behind(state, letter)] for letter in letters} for state in samples]
        reached = reached_by_rows(letters, classes[0], lambda one, letter: behind[one][letter])
        numbers = {one: number for number, one in enumerate(reached)}
        states = []
        for one in reached:
            steps = self._states[samples[one]]
            states.append({name: plain_step(steps[name], numbers[behind[one][name]]) for name in steps})
        marks = [numbers[behind[one][Signature.MARK]] for one in reached]
        return Adapter(self._first, self._second, states, marks)

    def first_other(self, adapter):
        """The first row of letters for whose last one the steps differ; None if there is none."""
        check_adapter(adapter)
        if self._first != adapter._first:
            raise OtherConvention(self._first, adapter._first)
        if self._second != adapter._second:
            raise OtherConvention(self._second, adapter._second)
        return first_other_row(self, adapter)

    def is_same(self, adapter):
        """Whether both adapters do the same."""
        return self.first_other(adapter) is None

    def __len__(self):
        return len(self._states)

    def __eq__(self, other):
        if not isinstance(other, Adapter):
            return False
        if self._first != other._first or self._second != other._second:
            return False
        return self._states == other._states and self._marks == other._marks


def check_adapter(value):
    """Refuses what is no adapter."""
    if not isinstance(value, Adapter):
        raise InvalidAdapter(value)


def check_states(book, states, marks):
    """Refuses what are no states of an adapter for this book, with the states to which the mark leads."""
    if not is_list(states) or not is_list(marks) or len(states) == 0 or len(marks) != len(states):
        raise InvalidStates(None)
    if len(states) > MOST_STATES:
        raise TooMany("states", MOST_STATES)
    for position, state in enumerate(states):
        if not is_state(book, state, len(states)) or not is_between(marks[position], 0, len(states) - 1):
            raise InvalidStates(position)


def is_state(book, value, many):
    """Whether value is a dict from exactly the names of the book to steps that lead to one of so many states."""
    if not isinstance(value, dict) or len(value) != len(book):
        return False
    return all([name in book and isinstance(step, Step) and step.next_state < many for name, step in value.items()])


def parts_of(plan, name, pieces):
    """The registers and nexts that mean these pieces of an argument, if the pointer is the offset ahead of it."""
    parts = [piece for piece in pieces if isinstance(piece, Register)]
    if len(parts) < len(pieces):
        parts.append(plan.next_of(name, len(parts)))
    return parts


def work_for(fill):
    """The work that does a fill, which may be FREE."""
    return Work() + fill


def plain_step(step, next_state):
    """A step that is like this one, with a plain work, and leads to this state."""
    return Step(step.reads(), step.work.plain(), step.writes(), next_state)


def letters_of(adapter):
    """The letters of an adapter's rows: the names of the kinds, and the mark."""
    return [*adapter.book.names(), Signature.MARK]


def reached_by_rows(letters, start, behind):
    """What rows of letters lead to from start on, as rows in order reach it first."""
    reached = [start]
    seen = {start: True}
    at = 0
    while at < len(reached):
        for letter in letters:
            state = behind(reached[at], letter)
            if state not in seen:
                seen[state] = True
                reached.append(state)
        if len(reached) > MOST_STATES:
            raise TooMany("states", MOST_STATES)
        at += 1
    return reached


def put_behind(adapter, other):
    """The adapter that does what the first one does and then the other one, both right for all signatures."""
    names = adapter.book.names()
    letters = letters_of(adapter)
    pairs = reached_by_rows(letters, (0, 0), lambda pair, letter: pair_behind(adapter, other, pair, letter))
    numbers = {pair: number for number, pair in enumerate(pairs)}
    states = []
    marks = []
    for pair in pairs:
        behind = {letter: numbers[pair_behind(adapter, other, pair, letter)] for letter in letters}
        steps = {name: (adapter.step(pair[0], name), other.step(pair[1], name)) for name in names}
        states.append({name: joined_step(steps[name][0], steps[name][1], behind[name]) for name in names})
        marks.append(behind[Signature.MARK])
    return Adapter(adapter.first, other.second, states, marks)


def pair_behind(adapter, other, pair, letter):
    """The states to which a letter leads from these states of two adapters."""
    return adapter.state_behind(pair[0], letter), other.state_behind(pair[1], letter)


def joined_step(step, other, next_state):
    """The step that does what the first one does and then the other one."""
    # Joined as fills, since two works may have more fills together than a work may have.
    fills = plain_fills(step.work.fills() + other.work.fills())
    return Step(step.reads(), Work(*fills), other.writes(), next_state)


def shape_of(step):
    """A text that is the same for the steps that are like each other."""
    return f"{step.reads()!r} {step.work.plain()!r} {step.writes()!r}"


def shapes_of(adapter):
    """The shapes of all steps: for each state a dict from the names of the kinds."""
    names = adapter.book.names()
    return [{name: shape_of(adapter.step(state, name)) for name in names} for state in range(len(adapter))]


def state_classes(adapter):
    """A number for each state: the same one for those that do the same for all rows of letters."""
    letters = letters_of(adapter)
    behind = [[adapter.state_behind(state, letter) for letter in letters] for state in range(len(adapter))]
    classes = numbered([tuple(list(shapes.values())) for shapes in shapes_of(adapter)])
    many = 0
    while many <= max(classes):
        # States are parted as long as letters lead from them to states that are parted.
        many = max(classes) + 1
        classes = numbered([(classes[state], *[classes[one] for one in row]) for state, row in enumerate(behind)])
    return classes


def numbered(keys):
    """A number for each key, the same one for equal keys, from 0 on."""
    numbers = {}
    return [numbers.setdefault(key, len(numbers)) for key in keys]


def first_other_row(adapter, other):
    """The first row of letters for whose last one the steps of two adapters differ; None if there is none."""
    shapes, other_shapes = shapes_of(adapter), shapes_of(other)
    many = len(adapter)
    # States that have a root in common do the same, or are still to be compared by rows that are not longer; so
    # a pair of them needs no look of its own. Those of the other adapter are counted on behind those of this one.
    roots = list(range(many + len(other)))
    roots[many] = 0
    queue = [((), 0, 0)]
    at = 0
    while at < len(queue):
        row, state, other_state = queue[at]
        for letter in letters_of(adapter):
            if letter != Signature.MARK and shapes[state][letter] != other_shapes[other_state][letter]:
                return [*row, letter]
            behind, other_behind = pair_behind(adapter, other, (state, other_state), letter)
            root, other_root = root_of(roots, behind), root_of(roots, many + other_behind)
            if root != other_root:
                roots[other_root] = root
                queue.append((row + (letter,), behind, other_behind))
        at += 1
    return None


def root_of(roots, number):
    """The root of a number, which is its own one."""
    while roots[number] != number:
        roots[number] = roots[roots[number]]
        number = roots[number]
    return number
