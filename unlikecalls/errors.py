"""The errors of the program. Each keeps the values that it is made of as attributes."""

# No error writes a text about its values: a value of any kind is kept, also one that has no text.


class CallError(ValueError):
    """A value that was passed is not valid."""


class InvalidNumber(CallError):
    """This is no number that may stand here."""

    def __init__(self, value):
        self.value = value


class InvalidName(CallError):
    """This is no NAME, or one that is there already."""

    def __init__(self, value):
        self.value = value


class InvalidPlace(CallError):
    """This is no place, or no part of one."""

    def __init__(self, value):
        self.value = value


class InvalidFill(CallError):
    """This is no fill, or no part of one."""

    def __init__(self, value):
        self.value = value


class InvalidWork(CallError):
    """At this position of a work stands no fill, or FREE; None: this is no work."""

    def __init__(self, position):
        self.position = position


class InvalidBits(CallError):
    """At this position stands no bit; None: this is no list of bits."""

    def __init__(self, position):
        self.position = position


class InvalidKind(CallError):
    """This is no kind, or no part of one."""

    def __init__(self, value):
        self.value = value


class InvalidBook(CallError):
    """This is no book; None: a book without kinds."""

    def __init__(self, value):
        self.value = value


class InvalidLetter(CallError):
    """At this position stands no letter, or a second mark."""

    def __init__(self, position):
        self.position = position


class InvalidSignature(CallError):
    """This is no signature, or none that may stand here."""

    def __init__(self, value):
        self.value = value


class InvalidOption(CallError):
    """This option of a convention cannot have this value."""

    def __init__(self, option, value):
        self.option = option
        self.value = value


class InvalidConvention(CallError):
    """This is no convention."""

    def __init__(self, value):
        self.value = value


class InvalidState(CallError):
    """This is no state of a convention."""

    def __init__(self, value):
        self.value = value


class InvalidValues(CallError):
    """For this argument there is no value of its kind; None: no list of values."""

    def __init__(self, position):
        self.position = position


class InvalidBytes(CallError):
    """At this position stands no BYTE; None: this is no list of bytes."""

    def __init__(self, position):
        self.position = position


class InvalidFrame(CallError):
    """This is no frame."""

    def __init__(self, value):
        self.value = value


class InvalidStep(CallError):
    """This part of a step is not valid; None: this is no step."""

    def __init__(self, part):
        self.part = part


class InvalidStates(CallError):
    """The state of an adapter with this number is not valid; None: no states."""

    def __init__(self, position):
        self.position = position


class InvalidAdapter(CallError):
    """This is no adapter."""

    def __init__(self, value):
        self.value = value


class InvalidOrder(CallError):
    """This is no order of the arguments."""

    def __init__(self, value):
        self.value = value


class InvalidText(CallError):
    """This line of a text is wrong; 0: this is no text."""

    def __init__(self, line):
        self.line = line


class InvalidClaim(CallError):
    """This is no claim."""

    def __init__(self, value):
        self.value = value


class InvalidThing(CallError):
    """This is no thing that may stand here."""

    def __init__(self, value):
        self.value = value


class InvalidCommand(CallError):
    """This is no command of a desk."""

    def __init__(self, value):
        self.value = value


class MissingError(LookupError):
    """Something that is asked for is not there."""


class UnknownKind(MissingError):
    """No kind of the book has this name."""

    def __init__(self, value):
        self.value = value


class UnknownThing(MissingError):
    """Nothing on the desk has this name."""

    def __init__(self, value):
        self.value = value


class NothingToUndo(MissingError):
    """No change is left that can be undone."""

    def __init__(self):
        MissingError.__init__(self, "nothing to undo")


class StateError(RuntimeError):
    """Things that are valid do not go together."""


class OtherBook(StateError):
    """These two books differ."""

    def __init__(self, one, other):
        self.one = one
        self.other = other


class OtherConvention(StateError):
    """These two conventions differ."""

    def __init__(self, one, other):
        self.one = one
        self.other = other


class NotRight(StateError):
    """An adapter is not right for this signature."""

    def __init__(self, witness):
        self.witness = witness


class NoRoom(StateError):
    """Behind so many moved arguments more bytes would be held than the room."""

    def __init__(self, moved):
        self.moved = moved


class CommandFailed(StateError):
    """The command at this position raised an error."""

    def __init__(self, position):
        self.position = position


class LimitError(ArithmeticError):
    """A limit of the program is exceeded."""


class TooMany(LimitError):
    """There are more of these than the limit."""

    def __init__(self, what, limit):
        self.what = what
        self.limit = limit
