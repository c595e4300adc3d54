"""Desks: conventions and adapters of one book under names, and the commands that work with them [94]."""

from unlikecalls.adapters import Adapter
from unlikecalls.basics import is_name
from unlikecalls.conventions import Convention
from unlikecalls.errors import (
    CallError,
    CommandFailed,
    InvalidBook,
    InvalidCommand,
    InvalidName,
    InvalidThing,
    LimitError,
    MissingError,
    NothingToUndo,
    OtherBook,
    StateError,
    UnknownThing,
)
from unlikecalls.judging import first_wrong
from unlikecalls.kinds import Book
from unlikecalls.leads import least_room
from unlikecalls.sides import first_lost, first_unlike

DONE = "done"
# How many names stand behind the first word of a command.
NAMES_BEHIND = {"drop": 1, "make": 3, "join": 3, "merge": 2, "verdict": 1, "alike": 2, "copies": 2, "room": 2,
                "back": 2, "undo": 0}
# The commands whose first name is set, and those whose other names are of adapters.
SETTING = ("make", "join", "merge")
OF_ADAPTERS = ("join", "merge", "verdict")


class Desk:
    """Conventions and adapters of one book under names; it may change, and remembers its changes."""

    def __init__(self, book):
        if not isinstance(book, Book):
            raise InvalidBook(book)
        self._book = book
        # The dicts of things, which are not changed themselves: the one now, and those ahead of each change.
        self._things = {}
        self._before = []

    @property
    def book(self):
        """The book of all things."""
        return self._book

    @property
    def changes(self):
        """How many changes can be undone."""
        return len(self._before)

    def names(self):
        """The names, sorted."""
        return sorted([str(name) for name in self._things])

    def __getitem__(self, at):
        if at not in self:
            raise UnknownThing(at)
        return self._things[at]

    def __setitem__(self, at, worth):
        self.put(at, worth)

    def __iter__(self):
        raise TypeError("names() gives the names on a desk")

    def __contains__(self, x):
        return isinstance(x, str) and x in self._things

    def __len__(self):
        return len(self._things)

    def put(self, name, thing):
        """Sets a name to a thing."""
        if not is_name(name):
            raise InvalidName(name)
        if not isinstance(thing, (Convention, Adapter)):
            raise InvalidThing(thing)
        if thing.book != self._book:
            raise OtherBook(self._book, thing.book)
        self._before.append(self._things)
        self._things = {**self._things, name: thing}

    def drop(self, name):
        """Takes a name away, with its thing."""
        if name not in self:
            raise UnknownThing(name)
        self._before.append(self._things)
        self._things = {other: self._things[other] for other in self._things if other != name}

    def undo(self):
        """Takes back the last change."""
        if len(self._before) == 0:
            raise NothingToUndo()
        self._things = self._before.pop()

    def do(self, command):
        """Does a command, and returns what it tells."""
        words = words_of(command)
        word, names = words[0], words[1:]
        needed = names[1:] if word in SETTING else names
        for name in needed:
            if name not in self:
                raise UnknownThing(name)
        things = [self._things[name] for name in needed]
        if word == "drop":
            self.drop(names[0])
            return DONE
        if word == "undo":
            self.undo()
            return DONE
        check_things(word, needed, things)
        if word in SETTING:
            self.put(names[0], thing_made(word, things))
            return DONE
        return told_of(word, things)

    def do_all(self, *commands):
        """Does commands one after another, and returns what they tell; all of them or none."""
        things, before = self._things, list(self._before)
        told = []
        for position, command in enumerate(commands):
            try:
                told.append(self.do(command))
            except (CallError, MissingError, StateError, LimitError) as error:
                self._things, self._before = things, before
                raise CommandFailed(position) from error
        return told

    def copy(self):
        """A desk with the same things and the same changes to undo, that changes independently."""
        desk = Desk(self._book)
        desk._things, desk._before = self._things, list(self._before)
        return desk

    def attempt(self, *commands):
        """What do_all would return, or raise; nothing changes."""
        return self.copy().do_all(*commands)

    def tried(self, action):
        """What action returns for a copy."""
        return action(self.copy())


def words_of(command):
    """The words of a command."""
    if not isinstance(command, str):
        raise InvalidCommand(command)
    words = command.split(" ")
    if words[0] not in NAMES_BEHIND or len(words) != 1 + NAMES_BEHIND[words[0]]:
        raise InvalidCommand(command)
    if not all([is_name(name) for name in words[1:]]):
        raise InvalidCommand(command)
    return words


def check_things(word, names, things):
    """Refuses the first of these names whose thing is not of the class that the command takes."""
    for name, thing in zip(names, things):
        if isinstance(thing, Adapter) != (word in OF_ADAPTERS):
            raise InvalidThing(name)


def thing_made(word, things):
    """What a command that sets a name sets it to."""
    if word == "make":
        return Adapter.made(things[0], things[1])
    if word == "join":
        return things[0].then(things[1])
    return things[0].merged()


def told_of(word, things):
    """What a command that asks something tells."""
    if word == "verdict":
        return letters_told(first_wrong(things[0]), "right")
    if word == "alike":
        return letters_told(first_unlike(things[0], things[1]), "yes")
    if word == "copies":
        lost = first_lost(things[0], things[1])
        return letters_told(None if lost is None else lost[0], "yes")
    room = least_room(things[0], things[1], backward=(word == "back"))
    return "none" if room is None else str(room)


def letters_told(signature, otherwise):
    """The letters of a signature, separated by one space; another word if there is no signature."""
    return otherwise if signature is None else " ".join(signature.letters())
