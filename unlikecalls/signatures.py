"""Signatures of a book: rows of letters, and their order [22]."""

from unlikecalls.basics import is_between, is_count, is_word_of
from unlikecalls.errors import (
    InvalidBook,
    InvalidLetter,
    InvalidNumber,
    InvalidSignature,
    OtherBook,
    TooMany,
)
from unlikecalls.kinds import Book

MOST_LETTERS = 1000
LONGEST_WALK = 100


class Signature:
    """A row of letters: names of kinds of a book, and at most once the mark."""

    MARK = "..."

    def __init__(self, book, *letters):
        if not isinstance(book, Book):
            raise InvalidBook(book)
        alphabet = [*book.names(), Signature.MARK]
        position = first_wrong_letter(alphabet, letters)
        if position is not None:
            raise InvalidLetter(position)
        if len(letters) > MOST_LETTERS:
            raise TooMany("letters", MOST_LETTERS)
        self._book = book
        self._letters = letters
        ranks = tuple([alphabet.index(letter) for letter in letters])
        # The book stands last: it makes signatures of other books unequal, and never decides between those of one.
        self._key = (len(letters), ranks, book.parts())

    @property
    def book(self):
        """The book whose kinds the letters name."""
        return self._book

    @property
    def has_mark(self):
        """Whether the mark is one of the letters."""
        return Signature.MARK in self._letters

    def letters(self):
        """The letters, in sequence."""
        return list(self._letters)

    def arguments(self):
        """The letters without the mark."""
        return [letter for letter in self._letters if letter != Signature.MARK]

    def named(self):
        """The beginning up to the mark, with it; all if there is none."""
        if not self.has_mark:
            return self
        return self.before(self._letters.index(Signature.MARK) + 1)

    def tail_names(self):
        """The letters behind the mark."""
        if not self.has_mark:
            return []
        return list(self._letters[self._letters.index(Signature.MARK) + 1:])

    def before(self, many):
        """The beginning with so many letters; all if there are fewer."""
        if not is_count(many):
            raise InvalidNumber(many)
        letters = self._letters[:many]
        return Signature(self._book, *letters)

    def __len__(self):
        return len(self._letters)

    def __getitem__(self, at):
        if not is_between(at, 0, len(self._letters) - 1):
            raise InvalidNumber(at)
        return self._letters[at]

    def __iter__(self):
        raise TypeError("letters() gives the letters of a signature")

    def __contains__(self, x):
        return is_word_of(x, self._letters)

    def __add__(self, other):
        if isinstance(other, Signature):
            if self._book != other._book:
                raise OtherBook(self._book, other._book)
            more = other._letters
        elif isinstance(other, str):
            more = (other,)
        else:
            raise InvalidSignature(other)
        letters = self._letters + more
        return Signature(self._book, *letters)

    def __radd__(self, other):
        if not isinstance(other, str):
            raise InvalidSignature(other)
        letters = (other,) + self._letters
        return Signature(self._book, *letters)

    def __mul__(self, other):
        if not is_count(other):
            raise InvalidNumber(other)
        if len(self._letters) == 0:
            return self
        # So many times are too many already, and a second mark has come by then.
        most = MOST_LETTERS // len(self._letters) + 1
        letters = self._letters * (other if other < most else most)
        return Signature(self._book, *letters)

    def __lt__(self, other):
        if not isinstance(other, Signature):
            return NotImplemented
        return self._key < other._key

    def __le__(self, other):
        if not isinstance(other, Signature):
            return NotImplemented
        return self._key <= other._key

    def __gt__(self, other):
        if not isinstance(other, Signature):
            return NotImplemented
        return self._key > other._key

    def __ge__(self, other):
        if not isinstance(other, Signature):
            return NotImplemented
        return self._key >= other._key

    def __eq__(self, other):
        if not isinstance(other, Signature):
            return NotImplemented
        return self._key == other._key

    def __repr__(self):
        return f"Signature({', '.join(self._letters)})"


def first_wrong_letter(alphabet, letters):
    """The position of the first one that is no letter, or a second mark; None if there is none."""
    marked = False
    for position, letter in enumerate(letters):
        if not is_word_of(letter, alphabet):
            return position
        if letter == Signature.MARK:
            if marked:
                return position
            marked = True
    return None


def signatures(book, most, *, mark=True):
    """All signatures with at most so many letters, in order; without the mark if mark is False."""
    if not isinstance(book, Book):
        raise InvalidBook(book)
    if not is_between(most, 0, LONGEST_WALK):
        raise InvalidNumber(most)
    alphabet = [*book.names(), Signature.MARK]
    for length in range(most + 1):
        ranks = [0] * length
        while ranks is not None:
            letters = [alphabet[rank] for rank in ranks]
            yield Signature(book, *letters)
            ranks = next_ranks(ranks, len(book), mark)


def next_ranks(ranks, many, mark):
    """The next row of as many ranks, where many is that of the mark; None if ranks is the last one."""
    for position in reversed(range(len(ranks))):
        may_be_mark = mark and many not in ranks[:position]
        last = many if may_be_mark else many - 1
        if ranks[position] < last:
            return ranks[:position] + [ranks[position] + 1] + [0] * (len(ranks) - position - 1)
    return None


def check_signature(value):
    """Refuses what is no signature."""
    if not isinstance(value, Signature):
        raise InvalidSignature(value)
