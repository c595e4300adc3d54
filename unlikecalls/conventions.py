"""Conventions: how a program passes arguments [31], [32], [33]."""

from unlikecalls.basics import is_between, is_one_of, is_word_of
from unlikecalls.errors import (
    InvalidBook,
    InvalidConvention,
    InvalidOption,
    InvalidSignature,
    InvalidState,
    OtherBook,
    UnknownKind,
)
from unlikecalls.fills import Fill
from unlikecalls.kinds import Book
from unlikecalls.layouts import FIRST_STATE, Layout, Rule, fill_of, place_letter
from unlikecalls.machines import Machine
from unlikecalls.signatures import Signature

# In the sequence in which they are checked; the fills come behind all of them.
OPTIONS = ("wholes", "floats", "together", "doubles", "again", "slot", "natural", "home", "tail")
NUMBERS = {"wholes": (0, 1, 2, 3), "floats": (0, 1, 2, 3), "slot": (4, 8), "home": (0, 16, 32)}
WORDS = {"doubles": ("whole", "even", "split"), "tail": ("same", "slots")}
# The greatest numbers of a state.
STATE_LIMITS = (3, 3, 1, 1, 1, 15)


class Convention:
    """How a program passes arguments of the kinds of a book."""

    def __init__(self, book, *, wholes=0, floats=0, together=False, doubles="whole", again=False, slot=8,
                 natural=True, home=0, tail="same", fills=None):
        if not isinstance(book, Book):
            raise InvalidBook(book)
        options = {"wholes": wholes, "floats": floats, "together": together, "doubles": doubles, "again": again,
                   "slot": slot, "natural": natural, "home": home, "tail": tail}
        for option in OPTIONS:
            if not is_allowed(option, options[option]):
                raise InvalidOption(option, options[option])
        if not are_fills(book, fills):
            raise InvalidOption("fills", fills)
        self._book = book
        self._options = options
        self._fills = {name: fill_of(fills or {}, name) for name in book.names()}
        told = tuple([options[option] for option in OPTIONS])
        words = tuple([str(self._fills[name]) for name in book.names()])
        self._parts = (book.parts(), told, words)
        kinds = book.kinds()
        self._rules = {kind.name: Rule(options, kind) for kind in kinds}
        self._machine = Machine([self._rules[kind.name] for kind in kinds], kinds,
                                [self._fills[kind.name] for kind in kinds])

    @property
    def book(self):
        """The book whose kinds are passed."""
        return self._book

    @property
    def wholes(self):
        """How many registers of the group "whole" there are."""
        return self._options["wholes"]

    @property
    def floats(self):
        """How many registers of the group "float" there are."""
        return self._options["floats"]

    @property
    def together(self):
        """Whether both groups share one count of registers."""
        return self._options["together"]

    @property
    def doubles(self):
        """How doubles take registers: "whole", "even" or "split"."""
        return self._options["doubles"]

    @property
    def again(self):
        """Whether later arguments may take registers after one that did not get any."""
        return self._options["again"]

    @property
    def slot(self):
        """The size of a slot, 4 or 8."""
        return self._options["slot"]

    @property
    def natural(self):
        """Whether slots are aligned by kinds."""
        return self._options["natural"]

    @property
    def home(self):
        """How many bytes at the beginning of the area belong to the callee."""
        return self._options["home"]

    @property
    def tail(self):
        """Where the tail goes: "same" or "slots"."""
        return self._options["tail"]

    def fill(self, name):
        """The fill of a kind."""
        if name not in self._book:
            raise UnknownKind(name)
        return self._fills[name]

    def told_options(self):
        """A dict of the options by their names, without the fills."""
        return {option: self._options[option] for option in OPTIONS}

    def changed(self, **options):
        """The convention with these options instead."""
        strangers = sorted([str(name) for name in options if name not in OPTIONS and name != "fills"])
        if strangers:
            raise InvalidOption(strangers[0], options[strangers[0]])
        told = {"fills": self._fills}
        told.update(self._options)
        told.update(options)
        return Convention(self._book, **told)

    def start(self):
        """The state of the empty signature."""
        return FIRST_STATE

    def step(self, state, letter):
        """A tuple: the pieces of a letter, counted from the offset ahead, the next state, the offset's growth."""
        if not is_state(state):
            raise InvalidState(state)
        if letter not in self._book and letter != Signature.MARK:
            raise UnknownKind(letter)
        return place_letter(self._rules, state, letter)

    def parts(self):
        """All that this convention tells, as a tuple: equal conventions have equal parts."""
        return self._parts

    def machine(self):
        """What this convention does from state to state."""
        return self._machine

    def __rshift__(self, other):
        if not isinstance(other, Signature):
            raise InvalidSignature(other)
        if self._book != other.book:
            raise OtherBook(self._book, other.book)
        return Layout(self, other, self._rules, self._fills)

    def __eq__(self, other):
        return isinstance(other, Convention) and self._parts == other._parts


def is_allowed(option, value):
    """Whether an option other than the fills may have this value."""
    if option in NUMBERS:
        return is_one_of(value, NUMBERS[option])
    if option in WORDS:
        return is_word_of(value, WORDS[option])
    return isinstance(value, bool)


def allowed_values(option):
    """All values that an option other than the fills may have."""
    if option in NUMBERS:
        return list(NUMBERS[option])
    if option in WORDS:
        return list(WORDS[option])
    return [True, False]


def are_fills(book, value):
    """Whether value is a dict from names of kinds to fills, or None."""
    if value is None:
        return True
    if not isinstance(value, dict):
        return False
    return all([name in book and isinstance(fill, Fill) for name, fill in value.items()])


def is_state(value):
    """Whether value has the form of a state."""
    if not isinstance(value, tuple) or len(value) != len(STATE_LIMITS):
        return False
    return all([is_between(number, 0, most) for number, most in zip(value, STATE_LIMITS)])


def check_convention(value):
    """Refuses what is no convention."""
    if not isinstance(value, Convention):
        raise InvalidConvention(value)
