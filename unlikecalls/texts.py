"""Texts of books and conventions [92]."""

from unlikecalls.conventions import Convention, allowed_values, check_convention
from unlikecalls.errors import InvalidFill, InvalidKind, InvalidName, InvalidText
from unlikecalls.fills import Fill
from unlikecalls.kinds import MOST_KINDS, Book, Kind

# The lines between those of the kinds and those of the fills: the first word, then the options that are told.
OPTION_LINES = (
    ("registers", "wholes", "floats"),
    ("together", "together"),
    ("doubles", "doubles"),
    ("again", "again"),
    ("slot", "slot"),
    ("natural", "natural"),
    ("home", "home"),
    ("tail", "tail"),
)
DIGITS = "0123456789"
# No number of a text has more digits.
MOST_DIGITS = 3
NO_NUMBER = -1


def text_of(convention):
    """The text of a convention and of its book."""
    check_convention(convention)
    kinds = convention.book.kinds()
    options = convention.told_options()
    lines = [f"kind {kind.name} {kind.group} {kind.size} {kind.width} {kind.align}" for kind in kinds]
    for first, *told in OPTION_LINES:
        lines.append(" ".join([first, *[word_for(options[option]) for option in told]]))
    for kind in kinds:
        fill = convention.fill(kind.name)
        if not fill.is_free:
            lines.append(f"fill {kind.name} {fill}")
    return "\n".join([*lines, ""])


def read_convention(text):
    """The convention with this text."""
    if not isinstance(text, str):
        raise InvalidText(0)
    reader = TextReader()
    lines = text.split("\n")
    # What stands behind the last line feed is no line, or one without its line feed.
    rest = lines.pop()
    for number, line in enumerate(lines):
        if not reader.takes(line):
            raise InvalidText(number + 1)
    if rest != "" or not reader.has_all():
        raise InvalidText(len(lines) + 1)
    return reader.convention_read()


class TextReader:
    """What the lines of a text have told so far."""

    def __init__(self):
        self._kinds = []
        self._options = {}
        self._fills = {}
        self._option_lines = 0

    def takes(self, line):
        """Takes in one more line; whether a text can begin with all lines up to this one."""
        words = line.split(" ")
        if words[0] == "kind":
            return self.takes_kind(words)
        if words[0] == "fill":
            return self.takes_fill(words)
        return self.takes_options(words)

    def takes_kind(self, words):
        """Takes in the words of a line of a kind."""
        if len(words) != 6 or self._option_lines > 0 or len(self._kinds) == MOST_KINDS:
            return False
        _, name, group, size, width, align = words
        if name in [kind.name for kind in self._kinds]:
            return False
        try:
            kind = Kind(name, group, size=number_for(size), width=number_for(width), align=number_for(align))
        except (InvalidName, InvalidKind):
            return False
        self._kinds.append(kind)
        return True

    def takes_options(self, words):
        """Takes in the words of the next line that tells options."""
        if not self._kinds or self.has_all():
            return False
        first, *told = OPTION_LINES[self._option_lines]
        if words[0] != first or len(words) != 1 + len(told):
            return False
        for option, word in zip(told, words[1:]):
            fitting = [value for value in allowed_values(option) if word_for(value) == word]
            if not fitting:
                return False
            self._options[option] = fitting[0]
        self._option_lines += 1
        return True

    def takes_fill(self, words):
        """Takes in the words of a line of a fill."""
        names = [kind.name for kind in self._kinds]
        if len(words) != 4 or not self.has_all() or words[1] not in names:
            return False
        # In sequence: none of the later kinds has a fill yet.
        if any([name in self._fills for name in names[names.index(words[1]):]]):
            return False
        try:
            self._fills[words[1]] = Fill.read(f"{words[2]} {words[3]}")
        except InvalidFill:
            return False
        return True

    def has_all(self):
        """Whether a text can end here."""
        return self._option_lines == len(OPTION_LINES)

    def convention_read(self):
        """The convention that the lines have told."""
        kinds = self._kinds
        book = Book(*kinds)
        options = self._options
        return Convention(book, **options).changed(fills=self._fills)


def word_for(value):
    """The word that tells the value of an option."""
    if isinstance(value, bool):
        return "yes" if value else "no"
    return str(value)


def number_for(word):
    """The number that a word tells in decimal without unnecessary zeros; NO_NUMBER if it tells none."""
    if not 1 <= len(word) <= MOST_DIGITS or not all([sign in DIGITS for sign in word]):
        return NO_NUMBER
    if word[0] == "0" and word != "0":
        return NO_NUMBER
    return int(word)
