"""Adapters: their parts, their runs, and those that are made [61] to [65]."""

from itertools import product

from tests.helpers import (
    ALIEN, BOOK, FULL, MANY, NO_COUNTS, NO_STRINGS, OVER, PLANS, WIDE, WIDE_PLANS, Dice, RaisingTest, run_by_hand,
    signature_of,
)
from unlikecalls.adapters import Adapter
from unlikecalls.calls import call, first_broken, read_values
from unlikecalls.conventions import Convention
from unlikecalls.errors import (
    InvalidBytes, InvalidConvention, InvalidFrame, InvalidNumber, InvalidSignature, InvalidStates, OtherBook, TooMany,
    UnknownKind,
)
from unlikecalls.fills import Fill, Work
from unlikecalls.frames import Frame
from unlikecalls.kinds import Book, Kind
from unlikecalls.places import Next, Register
from unlikecalls.signatures import Signature, signatures
from unlikecalls.steps import Step

FIRST, SECOND = PLANS[1], PLANS[2]
WHOLE = Register("whole", 0)
COPY = Step([Next(8, 8)], Work(), [Next(8, 8)])
PAIRS = list(product(PLANS, PLANS)) + list(product(WIDE_PLANS, WIDE_PLANS))


def step_to(number):
    return Step([WHOLE], Work(Fill("sign", 9 + number % 100)), [Next(4, 4)], number)


def ring(many, first=FIRST, second=SECOND):
    """An adapter with so many states in a ring, all told apart by their marks."""
    states = [{name: step_to((at + 1) % many) for name in first.book.names()} for at in range(many)]
    return Adapter(first, second, states, [at * at % many for at in range(many)])


class PartsTest(RaisingTest):

    def test_parts(self):
        states = [{"w": step_to(1), "a": step_to(2)}, {"a": step_to(0), "w": step_to(1)}, {"a": COPY, "w": COPY}]
        adapter = Adapter(second=SECOND, first=FIRST, marks=(2, 0, 1), states=states)
        self.assertEqual((adapter.first, adapter.second, adapter.book, len(adapter)), (FIRST, SECOND, BOOK, 3))
        self.assertEqual([adapter.mark(state) for state in range(3)], [2, 0, 1])
        self.assertEqual([adapter.step(0, "a"), adapter.step(name="w", state=1), adapter.step(2, "a")],
                         [step_to(2), step_to(1), COPY])
        self.check_read_only(adapter, ("first", "second", "book"))

    def test_parts_are_copied(self):
        states, marks = [{"a": COPY, "w": COPY}], [0]
        adapter = Adapter(FIRST, SECOND, states, marks)
        states[0]["a"] = step_to(0)
        states.append({})
        marks[0] = 7
        adapter.step(0, "a").reads().clear()
        self.assertEqual((adapter.step(0, "a"), adapter.mark(0), len(adapter)), (COPY, 0, 1))

    def test_numbers_and_names(self):
        adapter = ring(3)
        for state in (*NO_COUNTS, 3, 10 ** 40):
            self.check_raises(InvalidNumber, {"value": state}, adapter.step, state, "a")
            self.check_raises(InvalidNumber, {"value": state}, adapter.step, state, "none")
            self.check_raises(InvalidNumber, {"value": state}, adapter.mark, state)
        for name in (*NO_STRINGS, "", "b", "..."):
            self.check_raises(UnknownKind, {"value": name}, adapter.step, 2, name)

    def test_equality(self):
        adapters = [ring(2), ring(3), ring(2, second=FIRST), ring(2, first=SECOND),
                    Adapter(FIRST, SECOND, [{"a": COPY, "w": COPY}], [0]),
                    Adapter(FIRST, SECOND, [{"a": COPY, "w": step_to(0)}], [0]),
                    Adapter(FIRST, SECOND, [{"a": COPY, "w": COPY}] * 2, [0, 0]),
                    Adapter(FIRST, SECOND, [{"a": COPY, "w": COPY}] * 2, [0, 1])]
        self.check_equal_alone(adapters, (FIRST, COPY))
        self.assertEqual(Adapter(FIRST, SECOND, ({"w": COPY, "a": COPY},), (0,)), adapters[4])


class WrongPartsTest(RaisingTest):

    def test_conventions(self):
        for value in (*NO_COUNTS, 0, BOOK, "plan"):
            self.check_raises(InvalidConvention, {"value": value}, Adapter, value, SECOND, [], [])
            self.check_raises(InvalidConvention, {"value": value}, Adapter, FIRST, value, 5, 6)
            self.check_raises(InvalidConvention, {"value": value}, Adapter, value, 5, [], [])
            self.check_raises(InvalidConvention, {"value": value}, Adapter.made, value, 5)
            self.check_raises(InvalidConvention, {"value": value}, Adapter.made, FIRST, value)

    def test_no_lists(self):
        right = {"a": COPY, "w": COPY}
        for value in (True, None, 0, "", "a", {}, {0: right}, right, COPY, object()):
            self.check_raises(InvalidStates, {"position": None}, Adapter, FIRST, SECOND, value, [0])
            self.check_raises(InvalidStates, {"position": None}, Adapter, FIRST, SECOND, [right], value)
        for states, marks in (([], []), ([], [0]), ([right], []), ([right], [0, 0]), ([5] * 401, [0] * 400)):
            self.check_raises(InvalidStates, {"position": None}, Adapter, FIRST, SECOND, states, marks)

    def test_numbers_of_states(self):
        adapter = ring(400)
        self.assertEqual((len(adapter), adapter.step(398, "a").next_state, adapter.step(399, "w").next_state), (400, 399, 0))
        limit = {"what": "states", "limit": 400}
        self.check_raises(TooMany, limit, ring, 401)
        self.check_raises(TooMany, limit, Adapter, FIRST, SECOND, [None] * 401, [None] * 401)
        self.check_raises(TooMany, limit, Adapter, FIRST, Convention(ALIEN), [None] * 401, [None] * 401)

    def test_one_wrong_state(self):
        right = {"a": COPY, "w": step_to(2)}
        wrong = (None, 5, "aw", [], ["a", "w"], (COPY, COPY), {}, {"a": COPY}, {"w": COPY}, {**right, "b": COPY},
                 {"a": COPY, "b": COPY}, {"a": COPY, "w": None}, {"a": Work(), "w": COPY}, {**right, "...": COPY},
                 {**right, "a": step_to(3)}, {**right, "w": step_to(10 ** 40)}, {"a": COPY, 1: COPY}, COPY)
        for position, state in product(range(3), wrong):
            states = [right, right, right]
            states[position] = state
            self.check_raises(InvalidStates, {"position": position}, Adapter, FIRST, SECOND, states, [0, 1, 2])
            self.check_raises(InvalidStates, {"position": position}, Adapter, FIRST, Convention(ALIEN), states, [0, 1, 2])

    def test_one_wrong_mark(self):
        right = {"a": COPY, "w": step_to(2)}
        for position, mark in product(range(3), (*NO_COUNTS, 3, 10 ** 40)):
            marks = [0, 1, 2]
            marks[position] = mark
            self.check_raises(InvalidStates, {"position": position}, Adapter, FIRST, SECOND, [right] * 3, marks)

    def test_wrong_states_and_marks(self):
        right, wrong = {"a": COPY, "w": step_to(2)}, {"a": COPY, "w": step_to(3)}
        for one, other in product(range(3), range(3)):
            states, marks = [right, right, right], [0, 0, 0]
            states[one], marks[other] = wrong, 3
            self.check_raises(InvalidStates, {"position": min(one, other)}, Adapter, FIRST, SECOND, states, marks)

    def test_other_books(self):
        attributes = {"one": BOOK, "other": ALIEN}
        self.check_raises(OtherBook, attributes, Adapter, FIRST, Convention(ALIEN), [{"a": COPY, "w": COPY}], [0])
        self.check_raises(OtherBook, attributes, Adapter.made, FIRST, Convention(ALIEN))


class RunTest(RaisingTest):

    def test_any_adapters(self):
        dice = Dice(3)
        books = (BOOK, WIDE)
        for number in range(60):
            plans = (PLANS, WIDE_PLANS)[number % 2]
            adapter = dice.adapter(dice.pick(plans), dice.pick(plans), 1 + dice.roll(4))
            alphabet = [*books[number % 2].names(), "..."]
            for _ in range(6):
                letters = [dice.pick(alphabet) for _ in range(dice.roll(7))]
                while letters.count("...") > 1:
                    letters.remove("...")
                area = [dice.roll(256) for _ in range(dice.roll(60))]
                registers = {(group, at): dice.roll(2 ** 31) ** 2 for group in ("whole", "float") for at in range(3)}
                garbage = [dice.roll(256) for _ in range(dice.roll(4))]
                frame, signature = Frame(area, registers), Signature(adapter.book, *letters)
                found = adapter(signature, frame, garbage)
                self.assertEqual(found, run_by_hand(adapter, signature, frame, garbage))
                self.assertEqual(frame, Frame(area, registers))

    def test_no_arguments(self):
        frame = Frame([9] * 40, {("whole", 0): 7})
        for home in (0, 16, 32):
            adapter = ring(2, second=Convention(BOOK, home=home))
            for letters in ("", "."):
                made = adapter(signature_of(letters), frame, [1, 2, 3])
                self.assertEqual(made, call(Convention(BOOK, home=home), Signature(BOOK), [], [1, 2, 3]))
                self.assertEqual(made.size, home)

    def test_behind_the_area(self):
        adapter = Adapter(PLANS[0], PLANS[0], [{"a": COPY, "w": COPY}], [0])
        made = adapter(signature_of("aw"), Frame([1, 2, 3, 4, 5, 6, 7, 8, 9]), [170])
        self.assertEqual(made.area(), [1, 2, 3, 4, 5, 6, 7, 8, 9, 170, 170, 170, 170, 170, 170, 170])
        self.assertEqual(adapter(signature_of("aw"), Frame([3])).area(), [3] + [0] * 15)
        signing = Adapter(PLANS[0], PLANS[0], [{"a": Step([Next(1, 1)], Work(Fill("sign", 20)), [Next(8, 8)]), "w": COPY}], [0])
        self.assertEqual(signing(signature_of("a"), Frame(), [77]).area(), [77] * 8)
        zeros = Adapter(PLANS[0], PLANS[0], [{"a": Step([Next(1, 1)], Work(Fill("zeros", 20)), [Next(8, 8)]), "w": COPY}], [0])
        self.assertEqual(zeros(signature_of("a"), Frame(), [255]).area(), [255, 0, 240] + [255] * 5)

    def test_pointers_and_rows(self):
        book = Book(Kind("a", size=1), Kind("d", size=16))
        steps = {"a": Step([Next(1, 1), Next(4, 2)], Work(), [Next(2, 1), Next(4, 3)]),
                 "d": Step([Register("whole", 5), Next(8, 4)], Work(), [Register("float", 1)])}
        adapter = Adapter(Convention(book, home=16), Convention(book), [steps], [0])
        frame = Frame(list(range(100, 140)), {("whole", 5): 12345})
        made = adapter(signature_of("aad", book), frame, [0])
        # The reads of both are bytes 16, 20, 21 and then 22, 24, 25.
        self.assertEqual(made.area(), [116, 0, 0, 0, 120, 121, 0, 0, 122, 0, 0, 0, 124, 125, 0])
        self.assertEqual(made.registers(), {("float", 1): 12345})

    def test_states(self):
        far, near = Step([WHOLE], Work(), [Next(4, 4)], 1), Step([Register("whole", 1)], Work(), [Next(1, 1)], 0)
        adapter = Adapter(FIRST, SECOND, [{"a": far, "w": near}, {"a": near, "w": far}, {"a": far, "w": far}], [2, 2, 0])
        frame = Frame([], {("whole", 0): 1, ("whole", 1): 2})
        self.assertEqual(adapter(signature_of("aaaw"), frame).area(), [1, 0, 0, 0, 2, 0, 0, 0, 1, 0, 0, 0, 1, 0, 0, 0])
        self.assertEqual(adapter(signature_of("w"), frame).area(), [2])
        self.assertEqual(adapter(signature_of(".w"), frame).area(), [1, 0, 0, 0])

    def test_writes_one_behind_another(self):
        first = Step([WHOLE], Work(), [Register("whole", 2)])
        second = Step([Next(1, 1)], Work(), [Register("whole", 2)])
        adapter = Adapter(FIRST, SECOND, [{"a": first, "w": second}], [0])
        frame = Frame([7], {("whole", 0): 2 ** 40 + 255})
        self.assertEqual(adapter(signature_of("aw"), frame).registers(), {("whole", 2): 2 ** 40 + 7})
        self.assertEqual(adapter(signature_of("wa"), frame).registers(), {("whole", 2): 2 ** 40 + 255})

    def test_nothing_is_shared(self):
        adapter, garbage = ring(2), [5]
        frame = Frame([1, 2], {("whole", 0): 3})
        made = adapter(signature_of("a"), frame, garbage)
        again = made.copy()
        made[0] = 99
        garbage[0] = 6
        self.assertEqual(frame, Frame([1, 2], {("whole", 0): 3}))
        self.assertEqual(adapter(garbage=(5,), frame=frame, signature=signature_of("a")), again)

    def test_wrong_inputs(self):
        adapter, signature, frame = ring(2), signature_of("a"), Frame()
        for value in (*NO_STRINGS, "a", BOOK, adapter):
            self.check_raises(InvalidSignature, {"value": value}, adapter, value, frame)
            self.check_raises(InvalidSignature, {"value": value}, adapter, value, 5, 6)
        for value in (*NO_COUNTS, 0, adapter):
            self.check_raises(InvalidFrame, {"value": value}, adapter, signature, value)
            self.check_raises(InvalidFrame, {"value": value}, adapter, signature_of("a", ALIEN), value, 5)
        for value in (None, 5, "ab", b"ab", {}, {1}, Frame()):
            self.check_raises(InvalidBytes, {"position": None}, adapter, signature, frame, value)
        for value in (256, -1, True, None, "a"):
            self.check_raises(InvalidBytes, {"position": 1}, adapter, signature_of("a", ALIEN), frame, [0, value, 999])
        attributes = {"one": BOOK, "other": ALIEN}
        self.check_raises(OtherBook, attributes, adapter, signature_of("a", ALIEN), frame)


class MadeTest(RaisingTest):

    def check_calls(self, adapter, signature, garbage):
        """The callee finds its values, and all bits that its convention promises, for several values."""
        widths = [signature.book.kind(name).width for name in signature.arguments()]
        rows = ([0] * len(widths), [2 ** width - 1 for width in widths], [2 ** (width - 1) for width in widths],
                [0x123456789abcdef0123456789abcdef % 2 ** width for width in widths])
        for values in rows:
            for one, other in (garbage, garbage[::-1]):
                frame = call(adapter.first, signature, values, one)
                found = adapter(signature, frame, other)
                self.assertEqual(read_values(adapter.second, signature, found), values)
                self.assertIsNone(first_broken(adapter.second, signature, found, values))
                self.assertEqual(found.size, (adapter.second >> signature).end)

    def test_short_signatures(self):
        for first, second in PAIRS[::2]:
            adapter = Adapter.made(first, second)
            self.assertEqual((adapter.first, adapter.second), (first, second))
            self.assertLessEqual(len(adapter), 400)
            for signature in signatures(first.book, 2):
                self.check_calls(adapter, signature, ([255], [0, 77, 3]))

    def test_long_signatures(self):
        dice = Dice(11)
        for first, second in PAIRS[::5]:
            adapter = Adapter.made(second=second, first=first)
            letters = [dice.pick(first.book.names()) for _ in range(12)]
            letters[dice.roll(12)] = "..."
            self.check_calls(adapter, Signature(first.book, *letters), ([255], [1, 0, 77]))

    def test_all_options(self):
        book = Book(Kind("a", size=2, width=5), Kind("d", size=16, align=8, width=90), Kind("g", "float", size=16))
        fills = {"a": Fill("sign", 60), "d": Fill("zeros", 120)}
        dice = Dice(5)
        for options in product((0, 2, 3), (1, 3), (False, True), ("whole", "even", "split"), (False, True), (4, 8)):
            names = ("wholes", "floats", "together", "doubles", "again", "slot")
            first = Convention(book, **dict(zip(names, options)), natural=bool(dice.roll(2)), fills=fills)
            second = first.changed(wholes=dice.roll(4), floats=dice.roll(4), together=bool(dice.roll(2)), home=16 * dice.roll(3),
                                   doubles=dice.pick(("whole", "even", "split")), tail=dice.pick(("same", "slots")),
                                   fills={"a": dice.fill(), "d": dice.fill(), "g": dice.fill()})
            try:
                adapter = Adapter.made(first, second)
            except TooMany:
                continue
            letters = [dice.pick(["a", "d", "g"]) for _ in range(7)]
            letters.insert(dice.roll(8), "...")
            self.check_calls(adapter, Signature(book, *letters), ([255, 255, 254], [0, 1]))

    def test_longest(self):
        adapter = Adapter.made(WIDE_PLANS[1], WIDE_PLANS[2])
        signature = Signature(WIDE, *["adf"[at % 3] for at in range(500)], "...", *["fda"[at % 3] for at in range(499)])
        values = [at * 7919 % 128 for at in range(999)]
        found = adapter(signature, call(adapter.first, signature, values, [255]), [170])
        self.assertEqual(read_values(adapter.second, signature, found), values)
        self.assertIsNone(first_broken(adapter.second, signature, found, values))

    def test_numbers_of_joint_states(self):
        self.assertLessEqual(len(Adapter.made(*FULL)), 400)
        self.assertIsInstance(Adapter.made(*FULL[::-1]), Adapter)
        limit = {"what": "joint states", "limit": 400}
        for first, second in (OVER, OVER[::-1], MANY):
            self.check_raises(TooMany, limit, Adapter.made, first, second)
            self.assertEqual(Adapter.made(first, first).second, first)
