"""Signatures: their letters, and what is made of them [22]."""

from tests.helpers import NO_COUNTS, NO_STRINGS, RaisingTest
from unlikecalls.errors import (
    InvalidBook,
    InvalidLetter,
    InvalidNumber,
    InvalidSignature,
    OtherBook,
    TooMany,
)
from unlikecalls.kinds import Book, Kind
from unlikecalls.signatures import Signature

GREAT = 10 ** 29
BOOK = Book(Kind("b", size=1), Kind("a"))
OTHER_KINDS = Book(Kind("b", size=2), Kind("a"))
OTHER_SEQUENCE = Book(Kind("a"), Kind("b", size=1))
MORE = BOOK + Kind("c")
LIMIT = {"what": "letters", "limit": 1000}
NO_LETTERS = ("", "c", "ab", "A", "a ", "..", "....", ". . .", *NO_STRINGS, Kind("a"))


def sign(letters):
    """A signature, with a dot for the mark."""
    return Signature(BOOK, *["..." if letter == "." else letter for letter in letters])


class LettersTest(RaisingTest):

    def test_letters(self):
        self.assertEqual(Signature.MARK, "...")
        for letters in ((), ("a",), ("...",), ("b", "a", "a"), ("a", "...", "b"), ("a", "b", "...")):
            signature = Signature(BOOK, *letters)
            self.assertEqual(signature.letters(), list(letters))
            self.assertEqual(signature.arguments(), [letter for letter in letters if letter != "..."])
            self.assertIs(signature.has_mark, "..." in letters)
            self.assertEqual((len(signature), signature.book, signature.MARK), (len(letters), BOOK, "..."))
            self.check_read_only(signature, ("book", "has_mark"))
        self.assertEqual(Signature(book=BOOK), Signature(BOOK))

    def test_lists_are_new(self):
        signature = sign("a.b")
        for method in (signature.letters, signature.arguments, signature.tail_names):
            self.assertIs(type(method()), list)
            method().clear()
        self.assertEqual(signature.letters(), ["a", "...", "b"])
        self.assertEqual((signature.arguments(), signature.tail_names()), (["a", "b"], ["b"]))
        self.assertIs(type(sign("").tail_names()), list)

    def test_no_book(self):
        for book in (*NO_STRINGS, "a", Kind("a"), sign("a")):
            self.check_raises(InvalidBook, {"value": book}, Signature, book)
            self.check_raises(InvalidBook, {"value": book}, Signature, book, "x", "...", "...")

    def test_wrong_letters(self):
        for letter in NO_LETTERS:
            for position in (0, 1, 3, 999, 1000, 1200):
                letters = ["a"] * position + [letter, "x"]
                self.check_raises(InvalidLetter, {"position": position}, Signature, BOOK, *letters)

    def test_second_mark(self):
        for letters, position in (("..", 1), ("a..", 2), (".a.", 2), (".aab.b.", 4), ("...", 1)):
            letters = ["..." if letter == "." else letter for letter in letters]
            self.check_raises(InvalidLetter, {"position": position}, Signature, BOOK, *letters)
        self.check_raises(InvalidLetter, {"position": 1}, Signature, BOOK, "...", "...", "x")
        self.check_raises(InvalidLetter, {"position": 1}, Signature, BOOK, "...", "x", "...")

    def test_too_many(self):
        self.assertEqual(len(Signature(BOOK, *["a"] * 1000)), 1000)
        self.assertEqual(len(Signature(BOOK, *["a"] * 999, "...")), 1000)
        for letters in (["a"] * 1001, ["a"] * 1000 + ["..."], ["b"] * 1900):
            self.check_raises(TooMany, LIMIT, Signature, BOOK, *letters)
        self.check_raises(InvalidLetter, {"position": 1001}, Signature, BOOK, "...", *["a"] * 1000, "...")

    def test_parts(self):
        rows = (("", "", ""), ("ab", "ab", ""), (".", ".", ""), ("ab.", "ab.", ""), (".ab", ".", "ab"),
                ("ab.ba", "ab.", "ba"))
        for letters, named, tail in rows:
            self.assertEqual(sign(letters).named(), sign(named))
            self.assertEqual(sign(letters).tail_names(), list(tail))

    def test_beginnings(self):
        signature = sign("ab.ba")
        for many in range(8):
            self.assertEqual(signature.before(many), sign("ab.ba"[:many]))
        self.assertEqual((signature.before(many=GREAT), sign("").before(0)), (signature, sign("")))
        for many in NO_COUNTS:
            self.check_raises(InvalidNumber, {"value": many}, signature.before, many)

    def test_positions(self):
        signature = sign("ab.")
        self.assertEqual([signature[0], signature[1], signature[2]], ["a", "b", "..."])
        for position in (3, 4, GREAT, *NO_COUNTS, slice(0, 1), "a", "..."):
            self.check_raises(InvalidNumber, {"value": position}, lambda: signature[position])
        self.check_raises(InvalidNumber, {"value": 0}, lambda: sign("")[0])

    def test_in(self):
        signature = sign("aa.")
        self.assertIs("a" in signature, True)
        self.assertIs("..." in signature, True)
        self.assertIs("..." in sign("aa"), False)
        for value in ("b", *NO_LETTERS, 0, 1, signature, sign("a"), ("a", "a")):
            self.assertIs(value in signature, False, value)

    def test_repr(self):
        found = [repr(sign(letters)) for letters in ("", "a", ".", "aa.b")]
        self.assertEqual(found, ["Signature()", "Signature(a)", "Signature(...)", "Signature(a, a, ..., b)"])

    def test_examples(self):
        shelf = Book(Kind("b", size=1, width=7)) + Kind("f", "float")
        found = [shelf.names(), shelf.number_of("f"), "b" in shelf,
                 Signature(shelf, "f") < Signature(shelf, "..."), Signature(shelf, "b") * 3]
        self.assertEqual(repr(found), "[['b', 'f'], 1, True, True, Signature(b, b, b)]")
        book = Book(Kind("a", size=1), Kind("w"))
        short = Signature(book, "a") + "..."
        found = ["w" + short, short.named() == short, (short * 1 + "a").tail_names()]
        self.assertEqual(repr(found), "[Signature(w, a, ...), True, ['a']]")


class JoinTest(RaisingTest):

    def test_letter_by_letter(self):
        left = right = sign("")
        for number, letter in enumerate("ab.ba"):
            word = "..." if letter == "." else letter
            left, right = left + word, word + right
            self.assertEqual(left, sign("ab.ba"[:number + 1]))
            self.assertEqual(right, sign("ab.ba"[:number + 1][::-1]))

    def test_by_another_one(self):
        rows = (("", ""), ("a", ""), ("", "a"), ("ab", "ba"), ("a.", "b"), ("a", ".b"), (".", "aab"))
        for one, other in rows:
            left, right = sign(one), sign(other)
            self.assertEqual(left + right, sign(one + other))
            self.assertEqual((left, right), (sign(one), sign(other)))
        same = Signature(Book(Kind("b", size=1), Kind("a")), "a")
        self.assertEqual(sign("a") + same, sign("aa"))

    def test_in_place(self):
        one = other = sign("a")
        one += "b"
        self.assertEqual((one, other), (sign("ab"), sign("a")))
        one *= 2
        self.assertEqual((one, other), (sign("abab"), sign("a")))

    def test_wrong_letters(self):
        signature = sign("ab")
        for letter in ("", "c", "ab", "A", "a ", ".."):
            self.check_raises(InvalidLetter, {"position": 2}, lambda: signature + letter)
            self.check_raises(InvalidLetter, {"position": 0}, lambda: letter + signature)

    def test_second_mark(self):
        self.check_raises(InvalidLetter, {"position": 3}, lambda: sign("a.b") + "...")
        self.check_raises(InvalidLetter, {"position": 2}, lambda: "..." + sign("a.b"))
        self.check_raises(InvalidLetter, {"position": 1}, lambda: "..." + sign("."))
        self.check_raises(InvalidLetter, {"position": 4}, lambda: sign("a.b") + sign("a.b"))
        self.check_raises(InvalidLetter, {"position": 0}, lambda: "x" + sign("a.b"))

    def test_other_values(self):
        signature = sign("ab")
        for value in (*NO_STRINGS, Kind("a")):
            self.check_raises(InvalidSignature, {"value": value}, lambda: signature + value)
            self.check_raises(InvalidSignature, {"value": value}, lambda: value + signature)
        self.check_raises(InvalidSignature, {"value": BOOK}, lambda: signature + BOOK)
        self.assertEqual(signature, sign("ab"))

    def test_other_books(self):
        for book in (OTHER_KINDS, OTHER_SEQUENCE, MORE):
            for letters in ((), ("a",), ("...", "a")):
                for own in ("", "ab", "."):
                    one, other = sign(own), Signature(book, *letters)
                    self.check_raises(OtherBook, {"one": BOOK, "other": book}, lambda: one + other)
                    self.check_raises(OtherBook, {"one": book, "other": BOOK}, lambda: other + one)

    def test_too_many(self):
        longest = sign("a" * 999 + ".")
        self.assertEqual((sign("a" * 999) + "...", sign("a" * 400) + sign("a" * 599 + ".")), (longest, longest))
        self.assertEqual((longest + sign(""), "a" + sign("a" * 998 + ".")), (longest, longest))
        self.check_raises(TooMany, LIMIT, lambda: longest + "a")
        self.check_raises(TooMany, LIMIT, lambda: "a" + longest)
        self.check_raises(TooMany, LIMIT, lambda: longest + sign("a"))
        self.check_raises(InvalidLetter, {"position": 1000}, lambda: longest + "...")
        self.check_raises(InvalidLetter, {"position": 1000}, lambda: longest + "x")
        self.check_raises(InvalidLetter, {"position": 0}, lambda: "x" + longest)
        self.check_raises(InvalidLetter, {"position": 1000}, lambda: "..." + longest)


class TimesTest(RaisingTest):

    def test_times(self):
        for times in (0, 1, 2, 3, 5):
            self.assertEqual(sign("ab") * times, sign("ab" * times))
        for times in (0, 1):
            self.assertEqual(sign("a.b") * times, sign("a.b" * times))
        self.assertEqual(sign("") * GREAT, sign(""))

    def test_no_counts(self):
        for signature in (sign(""), sign("ab"), sign("a.")):
            for times in (*NO_COUNTS, signature):
                self.check_raises(InvalidNumber, {"value": times}, lambda: signature * times)

    def test_second_mark(self):
        for times in (2, 3, 1000, GREAT):
            self.check_raises(InvalidLetter, {"position": 4}, lambda: sign("a.b") * times)
            self.check_raises(InvalidLetter, {"position": 1001}, lambda: sign("a." + "b" * 998) * times)

    def test_too_many(self):
        self.assertEqual(len(sign("a") * 1000), 1000)
        self.assertEqual(len(sign("aba") * 333), 999)
        self.assertEqual(len(sign("a" * 500) * 2), 1000)
        for letters, times in (("a", 1001), ("aba", 334), ("a" * 500, 3), ("a" * 1000, 2), ("ab", GREAT)):
            self.check_raises(TooMany, LIMIT, lambda: sign(letters) * times)
