"""Conventions [31], and what they refuse; where they put arguments is told in test_layouts."""

from itertools import permutations, product

from tests.helpers import NO_STRINGS, RaisingTest
from unlikecalls.conventions import Convention
from unlikecalls.errors import InvalidBook, InvalidOption, InvalidSignature, InvalidState, OtherBook, UnknownKind
from unlikecalls.fills import Fill
from unlikecalls.kinds import Book, Kind
from unlikecalls.layouts import Layout
from unlikecalls.places import Register, Slots
from unlikecalls.signatures import Signature, signatures

BOOK = Book(Kind("a", size=1), Kind("w"))
ALIEN = Book(Kind("a", size=2), Kind("w"))
ALLOWED = {"wholes": (0, 1, 2, 3), "floats": (0, 1, 2, 3), "together": (False, True),
           "doubles": ("whole", "even", "split"), "again": (False, True), "slot": (8, 4), "natural": (True, False),
           "home": (0, 16, 32), "tail": ("same", "slots")}
OPTIONS = list(ALLOWED)
STRANGE = (None, -1, 5, 7, 12, 48, 10 ** 40, "", "Whole", "odd", "slot", b"same", [], [0], (), (0,), {}, object())
NUMBERS = ("wholes", "floats", "slot", "home")
BOOLS = ("together", "again", "natural")
NO_FILLS = (True, False, 0, 1, "", "a", "sign 32", [], [("a", Fill("sign", 32))], (), {"a"}, Fill("sign", 32),
            {"b": Fill("sign", 32)}, {"...": Fill()}, {"a": None}, {"a": "sign 32"}, {"a": Fill(), "w": ("sign", 32)},
            {"a": Fill(), 1: Fill()}, {None: Fill()}, {("a",): Fill()}, object())


def wrong_values(option):
    """Values that an option must not have."""
    values = list(STRANGE)
    if option in NUMBERS:
        values.extend([True, False])
    else:
        values.extend([0, 1])
    if option not in BOOLS:
        values.extend([True, False])
    return [value for value in values if not any(value is right or (value == right and type(value) is type(right))
                                                 for right in ALLOWED[option])]


def told(plan):
    return {option: getattr(plan, option) for option in OPTIONS}


class ConventionTest(RaisingTest):

    def test_defaults(self):
        plan = Convention(BOOK)
        self.assertEqual(told(plan), {option: ALLOWED[option][0] for option in OPTIONS})
        self.assertEqual((plan.book, plan.fill("a"), plan.fill("w")), (BOOK, Fill(), Fill()))
        self.assertIs(plan.natural, True)
        self.assertIs(plan.together, False)

    def test_each_option(self):
        for option, values in ALLOWED.items():
            for value in values:
                for plan in (Convention(BOOK, **{option: value}), Convention(BOOK).changed(**{option: value})):
                    wanted = {**told(Convention(BOOK)), option: value}
                    self.assertEqual(told(plan), wanted)
                    self.assertIs(type(getattr(plan, option)), type(value))

    def test_all_options_at_once(self):
        for values in product(*[ALLOWED[option][:2] for option in OPTIONS]):
            options = dict(zip(OPTIONS, values))
            self.assertEqual(told(Convention(BOOK, **options)), options)
            self.assertEqual(Convention(book=BOOK, **options), Convention(BOOK).changed(**options))

    def test_wrong_options(self):
        plan = Convention(BOOK, wholes=1, home=16)
        for option in OPTIONS:
            for value in wrong_values(option):
                attributes = {"option": option, "value": value}
                self.check_raises(InvalidOption, attributes, Convention, BOOK, **{option: value})
                self.check_raises(InvalidOption, attributes, plan.changed, **{option: value})
        self.assertEqual(plan, Convention(BOOK, wholes=1, home=16))

    def test_wrong_fills(self):
        for value in NO_FILLS:
            attributes = {"option": "fills", "value": value}
            self.check_raises(InvalidOption, attributes, Convention, BOOK, fills=value)
            self.check_raises(InvalidOption, attributes, Convention(BOOK).changed, fills=value)

    def test_several_wrong_options(self):
        names = OPTIONS + ["fills"]
        for one, other in permutations(names, 2):
            first = min(one, other, key=names.index)
            options = {one: "wrong", other: "wrong"}
            attributes = {"option": first, "value": "wrong"}
            self.check_raises(InvalidOption, attributes, Convention, BOOK, **options)
            self.check_raises(InvalidOption, attributes, Convention(BOOK).changed, **options)

    def test_wrong_books(self):
        for value in (*NO_STRINGS, "book", Kind("a"), [Kind("a")], Convention(BOOK)):
            self.check_raises(InvalidBook, {"value": value}, Convention, value)
            self.check_raises(InvalidBook, {"value": value}, Convention, book=value, wholes=9, fills=3)

    def test_options_by_name_only(self):
        with self.assertRaises(TypeError):
            Convention(BOOK, 1)

    def test_names_that_are_no_options(self):
        plan = Convention(BOOK)
        self.check_raises(InvalidOption, {"option": "book", "value": ALIEN}, plan.changed, book=ALIEN)
        self.check_raises(InvalidOption, {"option": "bends", "value": 3}, plan.changed, size=1, wholes=9, bends=3)
        self.check_raises(InvalidOption, {"option": "Z", "value": 4}, plan.changed, a=3, fills=9, Z=4, wholes=None)
        self.check_raises(InvalidOption, {"option": "wholes", "value": 4}, plan.changed, floats=4, wholes=4)
        self.check_raises(InvalidOption, {"option": "fill", "value": None}, plan.changed, fill=None, zone=1)
        self.assertEqual(plan, Convention(BOOK))

    def test_fills(self):
        plan = Convention(BOOK, fills={"w": Fill("zeros", 100)})
        self.assertEqual([plan.fill("a"), plan.fill(name="w")], [Fill(), Fill("zeros", 100)])
        both = plan.changed(fills={"a": Fill("sign", 9)})
        self.assertEqual([both.fill("a"), both.fill("w")], [Fill("sign", 9), Fill()])
        self.assertEqual(both.changed(wholes=2).fill("a"), Fill("sign", 9))
        for none in (None, {}, {"a": Fill()}, {"a": Fill(), "w": Fill("free")}):
            self.assertEqual(both.changed(fills=none), Convention(BOOK))
        self.assertEqual(plan.fill("w"), Fill("zeros", 100))

    def test_fills_are_copied(self):
        fills = {"a": Fill("sign", 9)}
        plan, other = Convention(BOOK, fills=fills), Convention(BOOK).changed(fills=fills)
        fills["a"] = Fill("zeros", 30)
        fills["w"] = Fill("zeros", 30)
        for each in (plan, other):
            self.assertEqual([each.fill("a"), each.fill("w")], [Fill("sign", 9), Fill()])

    def test_fill_of_unknown_kinds(self):
        plan = Convention(BOOK, fills={"a": Fill("sign", 9)})
        for name in (*NO_STRINGS, "b", "...", "", "A", Kind("a")):
            self.check_raises(UnknownKind, {"value": name}, plan.fill, name)

    def test_changes(self):
        plan = Convention(BOOK, fills={"a": Fill("sign", 9)}, floats=2)
        for option, values in ALLOWED.items():
            for value in values:
                there = plan.changed(**{option: value})
                self.assertEqual(there == plan, value == getattr(plan, option))
                self.assertEqual(there.changed(**{option: getattr(plan, option)}), plan)
        self.assertEqual(plan, Convention(BOOK, fills={"a": Fill("sign", 9)}, floats=2))
        self.assertEqual(plan.changed(), plan)

    def test_chains_of_changes(self):
        changes = [{"wholes": 3}, {"doubles": "split"}, {"fills": {"w": Fill("sign", 80)}}, {"slot": 4}]
        for chain in permutations(changes):
            plan = Convention(BOOK, again=True)
            for change in chain:
                plan = plan.changed(**change)
            fills = {"w": Fill("sign", 80)}
            self.assertEqual(plan, Convention(BOOK, again=True, wholes=3, doubles="split", slot=4, fills=fills))

    def test_equality(self):
        plans = [Convention(BOOK), Convention(ALIEN), Convention(Book(Kind("w"), Kind("a", size=1)))]
        for option, values in ALLOWED.items():
            plans.extend([Convention(BOOK, **{option: value}) for value in values[1:]])
        for fill in (Fill("sign", 9), Fill("zeros", 9), Fill("sign", 10)):
            plans.extend([Convention(BOOK, fills={"a": fill}), Convention(BOOK, fills={"w": fill})])
        plans.append(Convention(BOOK, fills={"a": Fill("sign", 9), "w": Fill("sign", 9)}))
        self.check_equal_alone(plans, (BOOK,))
        self.assertEqual(Convention(Book(Kind("a", size=1), Kind("w", width=64))), Convention(BOOK))
        told_twice = Convention(BOOK, fills={"w": Fill("sign", 9), "a": Fill("sign", 9)})
        self.assertEqual(told_twice, plans[-1])

    def test_read_only(self):
        self.check_read_only(Convention(BOOK), ["book", *OPTIONS])


class StepTest(RaisingTest):

    def test_wrong_states(self):
        plan = Convention(BOOK, wholes=3, floats=3)
        right = (0, 0, 0, 0, 0, 0)
        states = [*NO_STRINGS, "", "000000", list(right), right[1:], right + (0,), (right,)]
        for position, most in enumerate((3, 3, 1, 1, 1, 15)):
            for value in (most + 1, -1, None, True, False, "0", (0,), 10 ** 40):
                states.append(right[:position] + (value,) + right[position + 1:])
        for state in states:
            self.check_raises(InvalidState, {"value": state}, plan.step, state, "a")
            self.check_raises(InvalidState, {"value": state}, plan.step, letter="none", state=state)
        self.assertEqual(plan.step((3, 3, 0, 0, 0, 15), "w"), ([Slots(1, 8)], (3, 3, 1, 0, 0, 8), 9))
        self.assertEqual(plan.step((3, 3, 1, 1, 1, 15), "..."), ([], (3, 3, 1, 1, 1, 15), 0))

    def test_wrong_letters(self):
        plan = Convention(BOOK)
        for letter in (*NO_STRINGS, "", "b", "..", "....", "A", Kind("a"), Signature(BOOK, "a")):
            self.check_raises(UnknownKind, {"value": letter}, plan.step, plan.start(), letter)

    def test_steps_are_new(self):
        plan = Convention(BOOK, wholes=1)
        first = plan.step(plan.start(), "a")
        self.assertEqual(first, ([Register("whole", 0)], (1, 0, 0, 0, 0, 0), 0))
        self.assertEqual([type(part) for part in first], [list, tuple, int])
        first[0].clear()
        self.assertEqual(plan.step(state=plan.start(), letter="a"), ([Register("whole", 0)], (1, 0, 0, 0, 0, 0), 0))
        self.assertEqual(plan.start(), (0, 0, 0, 0, 0, 0))

    def test_states_reached_by_other_ways(self):
        plan = Convention(Book(Kind("a", size=1), Kind("d", size=16), Kind("w")), wholes=2, slot=4, tail="slots")
        found = {}
        for signature in signatures(plan.book, 4):
            layout = plan >> signature
            for letter in (*plan.book.names(), "..."):
                if letter == "..." and signature.has_mark:
                    continue
                pieces, state, growth = plan.step(layout.states()[-1], letter)
                longer = plan >> signature + letter
                self.assertEqual((state, growth), (longer.states()[-1], longer.end - layout.end))
                key = (layout.states()[-1], letter)
                self.assertEqual(found.setdefault(key, (pieces, state, growth)), (pieces, state, growth))


class LayTest(RaisingTest):

    def test_wrong_signatures(self):
        plan = Convention(BOOK)
        for value in (*NO_STRINGS, "a", ["a"], BOOK, plan, plan >> Signature(BOOK)):
            self.check_raises(InvalidSignature, {"value": value}, lambda value: plan >> value, value)

    def test_other_books(self):
        attributes = {"one": BOOK, "other": ALIEN}
        self.check_raises(OtherBook, attributes, lambda: Convention(BOOK) >> Signature(ALIEN, "a"))
        self.check_raises(OtherBook, attributes, lambda: Convention(BOOK) >> Signature(ALIEN))
        equal = Book(Kind("a", size=1), Kind("w"))
        self.assertEqual(Convention(BOOK) >> Signature(equal, "a"), Convention(equal) >> Signature(BOOK, "a"))

    def test_two_books_with_the_same_names(self):
        small = Book(Kind("a", size=1), Kind("w", size=4))
        great = Book(Kind("a", size=16), Kind("w", "float"))
        for _ in range(3):
            for book, pieces in ((small, [[Register("whole", 0)], [Slots(0, 4)]]), (great, [[Slots(0, 16)], [Slots(16, 8)]])):
                plan = Convention(book, wholes=1, slot=4, again=False)
                layout = plan >> Signature(book, "a", "w")
                self.assertEqual([layout.pieces(0), layout.pieces(1)], pieces)
                self.assertEqual(plan.step(plan.start(), "a")[0], pieces[0])

    def test_layouts_are_new(self):
        plan, signature = Convention(BOOK), Signature(BOOK, "a", "w")
        layout = plan >> signature
        layout.pieces(0).clear()
        self.assertIsInstance(layout, Layout)
        self.assertEqual((plan >> signature).pieces(0), [Slots(0, 8)])
        self.assertEqual((layout.convention, layout.signature), (plan, signature))

    def test_beginnings(self):
        plan = Convention(BOOK, wholes=2, slot=4, again=True)
        signature = Signature(BOOK, "a", "w", "...", "a", "w", "a")
        whole = plan >> signature
        for many in range(7):
            layout = plan >> signature.before(many)
            self.assertEqual(layout.states(), whole.states()[:many + 1])
            self.assertEqual(layout.offsets(), whole.offsets()[:many + 1])
            for argument in range(len(layout)):
                self.assertEqual(layout.pieces(argument), whole.pieces(argument))
                self.assertEqual(layout.fill(argument), whole.fill(argument))

    def test_longest(self):
        book = Book(Kind("a", size=1), Kind("b", "float", size=16, align=16), Kind("c", size=16, align=1),
                    Kind("d", size=2, align=16), Kind("e", "float"))
        fills = {"a": Fill("sign", 128), "c": Fill("zeros", 100), "d": Fill("sign", 20)}
        for slot, natural in ((4, True), (8, False)):
            plan = Convention(book, wholes=3, floats=3, doubles="split", slot=slot, natural=natural, fills=fills)
            letters = ["..." if number == 500 else "abcde"[number * number % 7 % 5] for number in range(1000)]
            layout = plan >> Signature(book, *letters)
            taken, offset = [], 0
            for argument in range(len(layout)):
                for piece in layout.pieces(argument):
                    if isinstance(piece, Register):
                        taken.append((piece.group, piece.number))
                    else:
                        self.assertGreaterEqual(piece.offset, offset)
                        self.assertEqual(piece.offset % slot, 0)
                        offset = piece.end
            self.assertEqual(len(set(taken)), len(taken))
            self.assertEqual((len(layout), layout.end, layout.offsets()[-1]), (999, offset, offset))
