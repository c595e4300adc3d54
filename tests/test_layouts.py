"""Layouts [31], [32], [33], by convention >> signature, and step for step."""

from itertools import product

from tests.helpers import NO_COUNTS, RaisingTest
from unlikecalls.conventions import Convention
from unlikecalls.errors import InvalidNumber
from unlikecalls.fills import Fill
from unlikecalls.kinds import Book, Kind
from unlikecalls.layouts import Layout
from unlikecalls.places import Register, Slots
from unlikecalls.signatures import Signature, signatures

GREAT = 10 ** 29
DEFAULTS = {"wholes": 0, "floats": 0, "together": False, "doubles": "whole", "again": False, "slot": 8,
            "natural": True, "home": 0, "tail": "same"}
BOOK = Book(Kind("a", size=1), Kind("d", size=16), Kind("f", "float", size=4), Kind("g", "float", size=16, align=4),
            Kind("w", align=2))


def lay(letters, *, book=BOOK, fills=None, **options):
    """The Layout of a signature, with a dot for the mark."""
    signature = Signature(book, *["..." if letter == "." else letter for letter in letters])
    return Convention(book, fills=fills, **options) >> signature


def whole(number):
    return Register("whole", number)


def floating(number):
    return Register("float", number)


def all_pieces(layout):
    return [layout.pieces(argument) for argument in range(len(layout))]


class Walker:
    """The words of [32] and [33], one after another, with the offsets of the area."""

    def __init__(self, options, book):
        self.options, self.book = options, book
        self.used = {"whole": 0, "float": 0}
        self.closed = {"whole": False, "float": False}
        self.marked = False
        self.offset = options["home"]
        self.many = {"whole": options["wholes"], "float": options["floats"]}

    def state(self):
        return (self.used["whole"], self.used["float"], int(self.closed["whole"]), int(self.closed["float"]),
                int(self.marked), self.offset % 16)

    def take_slots(self, size, align):
        slot = self.options["slot"]
        boundary = max(slot, align) if self.options["natural"] else slot
        while self.offset % boundary:
            self.offset += 1
        while size % slot:
            size += 1
        slots = Slots(self.offset, size)
        self.offset += size
        return slots

    def set_used(self, group, used):
        used = min(used, max(self.options["wholes"], self.options["floats"]))
        for each in ("whole", "float") if self.options["together"] else (group,):
            self.used[each] = used

    def close(self, group):
        if not self.options["again"]:
            for each in ("whole", "float") if self.options["together"] else (group,):
                self.closed[each] = True

    def walk(self, letter):
        if letter == "...":
            self.marked = True
            return []
        kind = self.book.kind(letter)
        group, needs = kind.group, 2 if kind.size == 16 else 1
        if self.closed[group] or self.marked and self.options["tail"] == "slots":
            return [self.take_slots(kind.size, kind.align)]
        begin = self.used[group]
        if needs == 2 and self.options["doubles"] == "even" and begin % 2 == 1:
            begin += 1
        wanted = list(range(begin, begin + needs))
        there = [number for number in wanted if number < self.many[group]]
        if there == wanted:
            self.set_used(group, wanted[-1] + 1)
            return [Register(group, number) for number in wanted]
        if needs == 2 and self.options["doubles"] == "split" and there == wanted[:1]:
            self.set_used(group, there[0] + (2 if self.options["together"] else 1))
            self.close(group)
            return [Register(group, there[0]), self.take_slots(8, min(kind.align, 8))]
        if self.options["together"]:
            self.set_used(group, begin + needs)
        self.close(group)
        return [self.take_slots(kind.size, kind.align)]


def all_options():
    """All options that a convention can have, with HOME and SLOT that go round."""
    choices = product((0, 1, 2, 3), (0, 1, 3), (False, True), ("whole", "even", "split"), (False, True),
                      (False, True), ("same", "slots"))
    for number, (wholes, floats, together, doubles, again, natural, tail) in enumerate(choices):
        yield {"wholes": wholes, "floats": floats, "together": together, "doubles": doubles, "again": again,
               "slot": (4, 8, 8)[number % 3], "natural": natural, "home": (0, 16, 32, 0, 16)[number % 5], "tail": tail}


class LayoutTest(RaisingTest):

    def test_all_options(self):
        rows = ["", ".", "aaddd", "dadf", "faagg", "wdw.gad", "a.fdwgaa", "ggfafdg", "addaawdd", "gawfdgw", ".dgdg",
                "wfwfdgwf", "agad.wfg", "fdaaga"]
        for options in all_options():
            for letters in rows:
                self.check_walk(lay(letters, **options), {**DEFAULTS, **options})

    def test_all_short_signatures(self):
        book = Book(Kind("a", size=2, align=16), Kind("d", size=16, align=8), Kind("g", "float", size=16))
        for together, doubles, again in product((False, True), ("whole", "even", "split"), (False, True)):
            options = {"wholes": 3, "floats": 2, "together": together, "doubles": doubles, "again": again, "slot": 4}
            for signature in signatures(book, 4):
                told = {**DEFAULTS, **options}
                self.check_walk(Convention(book, **options) >> signature, told)

    def check_walk(self, layout, options):
        walker = Walker(options, layout.signature.book)
        plan = layout.convention
        pieces, states, offsets = [], [walker.state()], [walker.offset]
        self.assertEqual(plan.start(), states[0])
        for letter in layout.signature.letters():
            placed = walker.walk(letter)
            stepped = [piece - offsets[-1] if isinstance(piece, Slots) else piece for piece in placed]
            wanted = (stepped, walker.state(), walker.offset - offsets[-1])
            self.assertEqual(plan.step(states[-1], letter), wanted, (options, layout.signature))
            if letter != "...":
                pieces.append(placed)
            states.append(walker.state())
            offsets.append(walker.offset)
        self.assertEqual(all_pieces(layout), pieces, (options, layout.signature))
        self.assertEqual((layout.states(), layout.offsets()), (states, offsets), (options, layout.signature))
        self.assertEqual((layout.end, len(layout)), (offsets[-1], len(pieces)))

    def test_examples(self):
        book = Book(Kind("a", size=1), Kind("w"))
        first, second = lay("aaw", book=book, wholes=1), lay("aaw", book=book, slot=4)
        found = [first.pieces(0), first.pieces(2), first.end, second.pieces(2), second.offsets()]
        self.assertEqual(repr(found), "[[Register('whole', 0)], [Slots(8, 8)], 16, [Slots(8, 8)], [0, 4, 8, 16]]")
        wide = Book(Kind("a", size=1), Kind("d", size=16))
        found = [lay("aad", book=wide, wholes=3, doubles=word).pieces(2) for word in ("whole", "even", "split")]
        self.assertEqual(repr(found), "[[Slots(0, 16)], [Slots(0, 16)], [Register('whole', 2), Slots(0, 8)]]")

    def test_step_examples(self):
        wide = Book(Kind("a", size=1), Kind("d", size=16))
        plan = Convention(wide, wholes=2, together=True, tail="slots", home=16)
        found = [plan.step((1, 1, 0, 0, 0, 0), "d"), plan.step(plan.start(), "...")]
        self.assertEqual(repr(found), "[([Slots(0, 16)], (2, 2, 1, 1, 0, 0), 16), ([], (0, 0, 0, 0, 1, 0), 0)]")

    def test_registers_of_both_groups(self):
        apart = lay("afwfa", wholes=3, floats=2)
        self.assertEqual(all_pieces(apart), [[whole(0)], [floating(0)], [whole(1)], [floating(1)], [whole(2)]])
        together = lay("afwf", wholes=3, floats=3, together=True)
        self.assertEqual(all_pieces(together), [[whole(0)], [floating(1)], [whole(2)], [Slots(0, 8)]])
        self.assertEqual(together.states(), [(0, 0, 0, 0, 0, 0), (1, 1, 0, 0, 0, 0), (2, 2, 0, 0, 0, 0),
                                             (3, 3, 0, 0, 0, 0), (3, 3, 1, 1, 0, 8)])

    def test_again(self):
        once = lay("dawd", wholes=1)
        self.assertEqual(all_pieces(once), [[Slots(0, 16)], [Slots(16, 8)], [Slots(24, 8)], [Slots(32, 16)]])
        again = lay("dawd", wholes=1, again=True)
        self.assertEqual(all_pieces(again), [[Slots(0, 16)], [whole(0)], [Slots(16, 8)], [Slots(32, 16)]])
        self.assertEqual(again.states(), [(0, 0, 0, 0, 0, 0), (0, 0, 0, 0, 0, 0), (1, 0, 0, 0, 0, 0),
                                          (1, 0, 0, 0, 0, 8), (1, 0, 0, 0, 0, 0)])

    def test_closed_groups(self):
        apart = lay("aaf", wholes=1, floats=1)
        self.assertEqual((apart.pieces(2), apart.states()[-1]), ([floating(0)], (1, 1, 1, 0, 0, 8)))
        together = lay("ff", wholes=1, floats=0, together=True)
        self.assertEqual(together.states()[1:], [(1, 1, 1, 1, 0, 8), (1, 1, 1, 1, 0, 0)])

    def test_even(self):
        self.assertEqual(all_pieces(lay("ad", wholes=3, doubles="even")), [[whole(0)], [Slots(0, 16)]])
        self.assertEqual(all_pieces(lay("da", wholes=3, doubles="even")), [[whole(0), whole(1)], [whole(2)]])
        left = lay("ada", wholes=3, doubles="even", again=True)
        self.assertEqual(all_pieces(left), [[whole(0)], [Slots(0, 16)], [whole(1)]])
        together = lay("ada", wholes=3, doubles="even", again=True, together=True)
        self.assertEqual(all_pieces(together), [[whole(0)], [Slots(0, 16)], [Slots(16, 8)]])
        self.assertEqual(together.states()[2], (3, 3, 0, 0, 0, 0))

    def test_split(self):
        split = lay("adw", wholes=2, doubles="split", again=True)
        self.assertEqual(all_pieces(split), [[whole(0)], [whole(1), Slots(0, 8)], [Slots(8, 8)]])
        self.assertEqual(split.states()[2], (2, 0, 0, 0, 0, 8))
        closing = lay("df", wholes=1, floats=3, doubles="split")
        self.assertEqual((closing.pieces(0), closing.states()[1]), ([whole(0), Slots(0, 8)], (1, 0, 1, 0, 0, 8)))
        together = lay("df", wholes=1, floats=3, doubles="split", together=True, again=True)
        self.assertEqual((together.pieces(1), together.states()[1]), ([floating(2)], (2, 2, 0, 0, 0, 8)))
        self.assertEqual(lay("d", wholes=0, doubles="split").pieces(0), [Slots(0, 16)])

    def test_boundary_of_an_upper_half(self):
        book = Book(Kind("a", size=4, align=1), Kind("d", size=16, align=16), Kind("e", size=16, align=2))
        for letters, natural, offset in (("ad", True, 8), ("ae", True, 4), ("ad", False, 4)):
            options = {"slot": 4, "natural": natural, "wholes": 1, "doubles": "split", "again": True}
            state = (0, 0, 0, 0, 0, 4)
            found = Convention(book, **options).step(state, letters[1])
            self.assertEqual(found[0], [whole(0), Slots(offset - 4, 8)], letters)
            self.assertEqual(found[2], offset + 4)

    def test_slots(self):
        book = Book(Kind("a", size=1), Kind("b", size=2, align=16), Kind("w"))
        rows = ((8, True, [Slots(0, 8), Slots(16, 8), Slots(24, 8)]), (4, True, [Slots(0, 4), Slots(16, 4), Slots(24, 8)]),
                (8, False, [Slots(0, 8), Slots(8, 8), Slots(16, 8)]), (4, False, [Slots(0, 4), Slots(4, 4), Slots(8, 8)]))
        for slot, natural, slots in rows:
            layout = lay("abw", book=book, slot=slot, natural=natural)
            self.assertEqual(all_pieces(layout), [[piece] for piece in slots])
            self.assertEqual(layout.end, slots[-1].end)

    def test_home(self):
        for home in (0, 16, 32):
            layout = lay("ad", home=home)
            self.assertEqual(layout.offsets(), [home, home + 8, home + 32])
            self.assertEqual(layout.pieces(1), [Slots(home + 16, 16)])
            self.assertEqual((layout.states()[0], lay("", home=home).end), ((0, 0, 0, 0, 0, 0), home))

    def test_tail(self):
        same = lay("a.af", wholes=2, floats=1)
        self.assertEqual(all_pieces(same), [[whole(0)], [whole(1)], [floating(0)]])
        slots = lay("a.af", wholes=2, floats=1, tail="slots")
        self.assertEqual(all_pieces(slots), [[whole(0)], [Slots(0, 8)], [Slots(8, 8)]])
        self.assertEqual(slots.states()[2:], [(1, 0, 0, 0, 1, 0), (1, 0, 0, 0, 1, 8), (1, 0, 0, 0, 1, 0)])
        together = lay("a.d", wholes=2, together=True, tail="slots")
        self.assertEqual(together.states()[-1], (1, 1, 0, 0, 1, 0))

    def test_bits_and_fills(self):
        fills = {"a": Fill("sign", 128), "f": Fill("zeros", 32), "w": Fill("sign", 128), "g": Fill("zeros", 128)}
        layout = lay("aaf.dwg", fills=fills, wholes=1, slot=4)
        self.assertEqual([layout.bits_of(argument) for argument in range(6)], [64, 32, 32, 128, 64, 128])
        found = [layout.fill(argument) for argument in range(6)]
        self.assertEqual(found, [Fill("sign", 64), Fill("sign", 32), Fill(), Fill(), Fill(), Fill()])
        halves = Book(Kind("d", size=16, width=100))
        for options in ({"wholes": 2}, {"wholes": 1, "doubles": "split"}, {"wholes": 0}):
            layout = lay("d", book=halves, fills={"d": Fill("sign", 120)}, **options)
            self.assertEqual((layout.bits_of(argument=0), layout.fill(argument=0)), (128, Fill("sign", 120)))

    def test_arguments_that_are_none(self):
        for layout, many in ((lay(""), 0), (lay("."), 0), (lay("a.d"), 2)):
            for value in (many, many + 1, GREAT, *NO_COUNTS):
                for method in (layout.pieces, layout.bits_of, layout.fill):
                    self.check_raises(InvalidNumber, {"value": value}, method, value)

    def test_lists_are_new(self):
        layout = lay("ad.", wholes=1)
        for method in (lambda: layout.pieces(1), layout.states, layout.offsets):
            self.assertIs(type(method()), list)
            before = tuple(method())
            method().clear()
            self.assertEqual(tuple(method()), before)

    def test_properties(self):
        layout = lay("ad", wholes=1)
        self.assertEqual(layout.convention, Convention(BOOK, wholes=1))
        self.assertIsInstance(layout, Layout)
        self.assertEqual(layout.signature, Signature(BOOK, "a", "d"))
        self.check_read_only(layout, ("convention", "signature", "end"))

    def test_equality(self):
        layouts = [lay("a"), lay("d"), lay(""), lay("a", wholes=1), lay("a", book=Book(Kind("a", size=1))),
                   lay("a", fills={"w": Fill("sign", 9)})]
        self.check_equal_alone(layouts, (Signature(BOOK, "a"),))
        self.assertEqual(lay("ad.f", wholes=2), lay("ad.f", wholes=2))

    def test_longest(self):
        layout = lay("a" * 999 + ".", wholes=3)
        self.assertEqual((len(layout), layout.end, layout.pieces(998)), (999, 996 * 8, [Slots(995 * 8, 8)]))
