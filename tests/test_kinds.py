"""Kinds and books [21]."""

from tests.helpers import NO_COUNTS, NO_STRINGS, RaisingTest
from unlikecalls.errors import InvalidBook, InvalidKind, InvalidName, TooMany, UnknownKind
from unlikecalls.fills import Fill
from unlikecalls.kinds import Book, Kind

GREAT = 10 ** 29
SIZES = (1, 2, 4, 8, 16)
NO_NAMES = ("", "abcdefghi", "A", "a1", "a b", "...", "\u00e9", *NO_STRINGS)
NO_GROUPS = ("", "Whole", "wholes", "float ", *NO_STRINGS)
NO_SIZES = (0, 3, 5, 6, 7, 9, 12, 15, 17, 32, 64, GREAT, *NO_COUNTS)


class KindTest(RaisingTest):

    def check_parts(self, kind, *parts):
        self.assertEqual((kind.name, kind.group, kind.size, kind.width, kind.align, kind.is_double), parts)
        self.check_read_only(kind, ("name", "group", "size", "width", "align", "is_double"))

    def test_defaults(self):
        self.check_parts(Kind("a"), "a", "whole", 8, 64, 8, False)
        self.check_parts(Kind("abcdefgh", "float"), "abcdefgh", "float", 8, 64, 8, False)
        for size in SIZES:
            self.check_parts(Kind("a", size=size), "a", "whole", size, 8 * size, size, size == 16)

    def test_parts(self):
        for group in ("whole", "float"):
            for size in SIZES:
                for width in (65 if size == 16 else 2, 8 * size - 1, 8 * size):
                    for align in SIZES:
                        kind = Kind("b", group, size=size, width=width, align=align)
                        self.check_parts(kind, "b", group, size, width, align, size == 16)
        self.check_parts(Kind(align=1, width=7, size=1, group="float", name="b"), "b", "float", 1, 7, 1, False)

    def test_by_name_only(self):
        with self.assertRaises(TypeError):
            Kind("a", "whole", 8)

    def test_wrong_name(self):
        for name in NO_NAMES:
            self.check_raises(InvalidName, {"value": name}, Kind, name)
            self.check_raises(InvalidName, {"value": name}, Kind, name, "none", size=3, width=1, align=3)

    def test_wrong_group(self):
        for group in NO_GROUPS:
            self.check_raises(InvalidKind, {"value": group}, Kind, "a", group)
            self.check_raises(InvalidKind, {"value": group}, Kind, "a", group, size=3, width=1, align=3)

    def test_wrong_size(self):
        for size in NO_SIZES:
            self.check_raises(InvalidKind, {"value": size}, Kind, "a", size=size)
            self.check_raises(InvalidKind, {"value": size}, Kind, "a", size=size, width=1, align=3)

    def test_wrong_width(self):
        for size in SIZES:
            least = 65 if size == 16 else 2
            for width in (-2, 0, 1, least - 1, 8 * size + 1, 129, GREAT, *NO_COUNTS):
                if width is not None:
                    self.check_raises(InvalidKind, {"value": width}, Kind, "a", size=size, width=width)
                    self.check_raises(InvalidKind, {"value": width}, Kind, "a", size=size, width=width, align=3)
        self.check_raises(InvalidKind, {"value": 64}, Kind, "a", size=16, width=64)

    def test_wrong_align(self):
        for align in NO_SIZES:
            if align is not None:
                self.check_raises(InvalidKind, {"value": align}, Kind, "a", align=align)
                self.check_raises(InvalidKind, {"value": align}, Kind, "a", size=16, width=65, align=align)

    def test_holds(self):
        for kind in (Kind("a", size=1), Kind("a", size=1, width=2), Kind("a", width=63), Kind("a", size=16, width=65)):
            first_out = 1 << kind.width
            for value in (0, 1, 2, 3, first_out // 2, first_out - 1):
                self.assertIs(kind.holds(value), True, (kind, value))
            for value in (first_out, first_out + 1, -first_out, *NO_COUNTS):
                self.assertIs(kind.holds(value), False, (kind, value))
        self.assertIs(Kind("a").holds(value=1), True)

    def test_equality(self):
        kinds = [Kind("a"), Kind("b"), Kind("a", "float"), Kind("a", size=4), Kind("a", width=63), Kind("a", align=4)]
        self.check_equal_alone(kinds, ("a", ("a", "whole", 8, 64, 8), Book(Kind("a"))))
        self.assertEqual(Kind("a"), Kind("a", "whole", size=8, width=64, align=8))

    def test_repr(self):
        self.assertEqual(repr(Kind("a", size=1)), "Kind('a', 'whole', size=1, width=8, align=1)")
        self.assertEqual(repr(Kind("d", "float", size=16, width=80, align=4)),
                         "Kind('d', 'float', size=16, width=80, align=4)")

    def test_examples(self):
        byte = Kind("b", size=1, width=7)
        found = [byte, byte.holds(127), byte.holds(128), Kind("d", size=16).is_double]
        self.assertEqual(repr(found), "[Kind('b', 'whole', size=1, width=7, align=1), True, False, True]")


class BookTest(RaisingTest):

    def setUp(self):
        self.kinds = [Kind(name, size=size) for name, size in zip("edcba", SIZES)]

    def test_kinds(self):
        for many in range(1, 6):
            kinds = self.kinds[:many]
            book = Book(*kinds)
            self.assertEqual((book.kinds(), book.names(), len(book)), (kinds, list("edcba")[:many], many))
            for number, kind in enumerate(kinds):
                self.assertEqual((book.kind(kind.name), book.number_of(kind.name)), (kind, number))
                self.assertEqual((book.kind(name=kind.name), book.number_of(name=kind.name)), (kind, number))
                self.assertIs(kind.name in book, True)

    def test_lists_are_new(self):
        book = Book(*self.kinds)
        self.assertIs(type(book.kinds()), list)
        self.assertIs(type(book.names()), list)
        book.kinds().clear()
        book.names().clear()
        self.assertEqual((book.kinds(), book.names()), (self.kinds, list("edcba")))

    def test_unknown_names(self):
        book = Book(*self.kinds)
        for name in ("f", "", "ab", "A", "...", "a ", *NO_STRINGS, self.kinds[0]):
            self.check_raises(UnknownKind, {"value": name}, book.kind, name)
            self.check_raises(UnknownKind, {"value": name}, book.number_of, name)
            self.assertIs(name in book, False)

    def test_no_kinds(self):
        self.check_raises(InvalidBook, {"value": None}, Book)

    def test_wrong_kinds(self):
        kinds = self.kinds
        for value in (*NO_STRINGS, "a", Book(kinds[0]), Fill()):
            self.check_raises(InvalidKind, {"value": value}, Book, value)
            self.check_raises(InvalidKind, {"value": value}, Book, kinds[0], kinds[0], value, object())
            self.check_raises(InvalidKind, {"value": value}, Book, *kinds, *kinds, value)

    def test_names_twice(self):
        kinds = self.kinds
        self.check_raises(InvalidName, {"value": "e"}, Book, kinds[0], kinds[0])
        self.check_raises(InvalidName, {"value": "d"}, Book, kinds[0], kinds[1], Kind("d", "float"), kinds[0])
        self.check_raises(InvalidName, {"value": "a"}, Book, *kinds, kinds[4], kinds[0])
        self.check_raises(InvalidName, {"value": "f"}, Book, *kinds, Kind("f"), Kind("f"))

    def test_too_many(self):
        self.check_raises(TooMany, {"what": "kinds", "limit": 5}, Book, *self.kinds, Kind("f"))
        self.check_raises(TooMany, {"what": "kinds", "limit": 5}, Book, *self.kinds, Kind("f"), Kind("g"))

    def test_one_more(self):
        book = Book(self.kinds[0])
        for many in range(2, 6):
            elder = book
            book = book + self.kinds[many - 1]
            self.assertEqual((book, elder), (Book(*self.kinds[:many]), Book(*self.kinds[:many - 1])))
        elder = book = Book(self.kinds[0])
        book += self.kinds[1]
        self.assertEqual((book, elder), (Book(*self.kinds[:2]), Book(self.kinds[0])))

    def test_one_more_that_is_wrong(self):
        book = Book(*self.kinds)
        for value in (*NO_STRINGS, "f", book, Fill()):
            self.check_raises(InvalidKind, {"value": value}, lambda: book + value)
        for kind in (self.kinds[0], Kind("c", "float")):
            self.check_raises(InvalidName, {"value": kind.name}, lambda: book + kind)
        self.check_raises(TooMany, {"what": "kinds", "limit": 5}, lambda: book + Kind("f"))
        self.assertEqual(book, Book(*self.kinds))

    def test_equality(self):
        kinds = self.kinds
        books = [Book(kinds[0]), Book(kinds[1]), Book(*kinds[:2]), Book(kinds[1], kinds[0]), Book(Kind("e", "float")),
                 Book(Kind("e", size=2)), Book(Kind("e", size=1, width=7)), Book(Kind("e", size=1, align=2))]
        self.check_equal_alone(books, (kinds[0], [kinds[0]], ["e"], "e"))
        self.assertEqual(Book(*kinds), Book(*[Kind(name, size=size) for name, size in zip("edcba", SIZES)]))
