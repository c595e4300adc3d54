"""The order of signatures, and walks through all of them [22]."""

from itertools import islice, product

from tests.helpers import NO_COUNTS, NO_STRINGS, RaisingTest
from unlikecalls.errors import InvalidBook, InvalidNumber
from unlikecalls.kinds import Book, Kind
from unlikecalls.signatures import Signature, signatures

GREAT = 10 ** 29
BOOK = Book(Kind("b", size=1), Kind("a"))
FIVE = Book(*[Kind(name) for name in "edcab"])


def letters_in_order(names, most, mark):
    """All rows of letters, by the words of [22]."""
    for length in range(most + 1):
        for letters in product([*names, "..."], repeat=length):
            if letters.count("...") <= (1 if mark else 0):
                yield list(letters)


class OrderTest(RaisingTest):

    def test_all_pairs(self):
        rows = [Signature(BOOK, *letters) for letters in letters_in_order(["b", "a"], 3, True)]
        self.assertEqual(len(rows), 32)
        for at, one in enumerate(rows):
            for number, other in enumerate(rows):
                found = (one < other, one <= other, one > other, one >= other, one == other, one != other)
                wanted = (at < number, at <= number, at > number, at >= number, at == number, at != number)
                self.assertEqual(found, wanted, (one, other))

    def test_sequence_of_the_book(self):
        for book, less, more in ((BOOK, "b", "a"), (Book(Kind("a"), Kind("b", size=1)), "a", "b")):
            self.assertTrue(Signature(book, less) < Signature(book, more) < Signature(book, "..."))
            self.assertTrue(Signature(book, "...") < Signature(book, less, less))
            self.assertTrue(Signature(book, less, more) < Signature(book, more, less))

    def test_equal_books(self):
        one, other = Signature(BOOK, "b"), Signature(Book(Kind("b", size=1), Kind("a")), "b")
        self.assertEqual((one == other, one <= other, one >= other, one < other, one > other),
                         (True, True, True, False, False))

    def test_equality(self):
        books = [BOOK, Book(Kind("b", size=2), Kind("a")), Book(Kind("a"), Kind("b", size=1)), BOOK + Kind("c")]
        rows = [Signature(book, *letters) for book in books for letters in ("", "a", "b", "ab", ("...", "a"))]
        self.check_equal_alone(rows, ("a", ["a"], ("a",), BOOK))

    def test_other_values(self):
        for value in (*NO_STRINGS, "a"):
            for compare in (lambda: Signature(BOOK) < value, lambda: Signature(BOOK) <= value,
                            lambda: Signature(BOOK) > value, lambda: Signature(BOOK) >= value):
                with self.assertRaises(TypeError):
                    compare()

    def test_not_iterated_over(self):
        with self.assertRaises(TypeError):
            iter(Signature(BOOK, "a"))


class WalkTest(RaisingTest):

    def check_walk(self, book, most, mark):
        found = list(signatures(book, most, mark=mark))
        self.assertEqual([one.letters() for one in found], list(letters_in_order(book.names(), most, mark)))
        self.assertTrue(all([type(one) is Signature and one.book == book for one in found]))

    def test_short_ones(self):
        for mark in (True, False):
            for most in range(6):
                self.check_walk(BOOK, most, mark)
                self.check_walk(Book(Kind("z")), most, mark)
            for most in range(4):
                self.check_walk(FIVE, most, mark)

    def test_defaults_and_names(self):
        self.assertEqual(list(signatures(BOOK, 2)), list(signatures(most=2, mark=True, book=BOOK)))
        self.assertEqual(len(list(signatures(BOOK, 2, mark=False))), 7)
        self.assertEqual(list(signatures(BOOK, 0)), [Signature(BOOK)])
        with self.assertRaises(TypeError):
            signatures(BOOK, 2, True)

    def test_great_lengths(self):
        book = Book(Kind("z"))
        self.assertEqual([one.letters() for one in signatures(book, 100, mark=False)],
                         [["z"] * length for length in range(101)])
        last = list(signatures(book, 100))
        self.assertEqual((len(last), len(last[-1]), last[-1][0]), (1 + sum(range(2, 102)), 100, "..."))
        self.assertTrue(all([one < other for one, other in zip(last, last[1:])]))

    def test_no_end_in_sight(self):
        for mark in (True, False):
            begun = [one.letters() for one in islice(signatures(FIVE, 100, mark=mark), 3000)]
            self.assertEqual(begun, list(islice(letters_in_order(FIVE.names(), 5, mark), 3000)))

    def test_several_walks(self):
        one, other, left = signatures(BOOK, 3), signatures(BOOK, 3), signatures(BOOK, 100)
        next(left)
        for number, (first, second) in enumerate(zip(one, other, strict=True)):
            self.assertEqual(first, second)
            if number == 5:
                left.close()
        self.assertEqual(list(one), [])

    def test_wrong_book(self):
        for book in (*NO_STRINGS, "a", Kind("a"), Signature(BOOK)):
            for most in (2, 101, True):
                walk = signatures(book, most)
                self.check_raises(InvalidBook, {"value": book}, next, walk)

    def test_wrong_most(self):
        for most in (101, 102, GREAT, *NO_COUNTS):
            for walk in (signatures(BOOK, most), signatures(BOOK, most=most, mark=False)):
                self.check_raises(InvalidNumber, {"value": most}, next, walk)
