"""Calls, and what a callee reads from them [42], [43]."""

from itertools import product

from tests.helpers import NO_COUNTS, NO_STRINGS, RaisingTest
from unlikecalls.calls import call, first_broken, keeps, read_values
from unlikecalls.conventions import Convention
from unlikecalls.errors import (
    InvalidBytes, InvalidConvention, InvalidFrame, InvalidSignature, InvalidValues, OtherBook,
)
from unlikecalls.fills import Fill
from unlikecalls.frames import Frame
from unlikecalls.kinds import Book, Kind
from unlikecalls.places import Register
from unlikecalls.signatures import Signature, signatures

BOOK = Book(Kind("a", size=1, width=7), Kind("d", size=16, width=100, align=8), Kind("f", "float", size=4),
            Kind("w", size=8, align=16))
ALIEN = Book(Kind("a", size=1), Kind("d", size=16), Kind("f", "float", size=4), Kind("w"))
FILLS = {"a": Fill("sign", 16), "d": Fill("zeros", 128), "f": Fill("sign", 50)}
PLANS = [Convention(BOOK), Convention(BOOK, wholes=3, floats=1, fills=FILLS, slot=4),
         Convention(BOOK, wholes=2, doubles="split", home=16, fills={"a": Fill("zeros", 20), "d": Fill("sign", 101)}),
         Convention(BOOK, wholes=1, floats=2, doubles="split", again=True, slot=4, natural=False, home=32,
                    fills={"a": Fill("sign", 128), "f": Fill("zeros", 40), "w": Fill("sign", 65)}),
         Convention(BOOK, wholes=3, together=True, tail="slots", doubles="even", fills={"d": Fill("sign", 128)})]
GARBAGE = ((), [165], [255], (1, 2, 3), list(range(1, 120)))
ROWS = ("", "a", "d", "fw", "adf", "aadd", "a.d", ".fa", "wda.faw", "ddddfa")


def signature_of(letters, book=BOOK):
    return Signature(book, *["..." if letter == "." else letter for letter in letters])


def some_values(signature):
    """Rows of values: all 0, the greatest, the highest bit alone, and others."""
    widths = [signature.book.kind(name).width for name in signature.arguments()]
    yield [0 for _ in widths]
    yield [2 ** width - 1 for width in widths]
    yield [2 ** (width - 1) for width in widths]
    yield [123456789 ** 4 * (at + 1) % 2 ** width for at, width in enumerate(widths)]


class Memory:
    """The words of [42] with one great number for each place, apart from the program's lists of bits."""

    def __init__(self, plan, signature, values, garbage):
        self.layout = plan >> signature
        stream = [garbage[at % len(garbage)] if garbage else 0 for at in range(48 + self.layout.end)]
        numbers = [int.from_bytes(bytes(stream[at:at + 8]), "little") for at in range(0, 48, 8)]
        keys = [(group, number) for group in ("whole", "float") for number in range(3)]
        self.registers = dict(zip(keys, numbers))
        self.area = int.from_bytes(bytes(stream[48:]), "little")
        for argument, value in enumerate(values):
            number, mask = self.promise(argument, value)
            self.write(argument, number, mask)

    def promise(self, argument, value):
        """The number that must stand in the pieces, and the mask of the bits that are promised."""
        name = self.layout.signature.arguments()[argument]
        width, fill = self.layout.signature.book.kind(name).width, self.layout.convention.fill(name)
        bits = sum(piece.bits for piece in self.layout.pieces(argument))
        extent = width if fill.word == "free" else max(width, min(fill.extent, bits))
        if fill.word == "sign" and value >> (width - 1):
            value += 2 ** extent - 2 ** width
        return value, 2 ** extent - 1

    def write(self, argument, number, mask):
        for piece in self.layout.pieces(argument):
            here, all_bits = mask % 2 ** piece.bits, number % 2 ** piece.bits
            if isinstance(piece, Register):
                key = (piece.group, piece.number)
                self.registers[key] = self.registers[key] & ~here | all_bits & here
            else:
                shift = 8 * piece.offset
                self.area = self.area & ~(here << shift) | (all_bits & here) << shift
            number, mask = number >> piece.bits, mask >> piece.bits

    def frame(self):
        return Frame(list(self.area.to_bytes(self.layout.end, "little")), self.registers)


def flipped(plan, signature, values, frame):
    """A frame with all bits changed that no callee may look at."""
    memory = Memory(plan, signature, [], [])
    memory.area, memory.registers = 0, dict.fromkeys(memory.registers, 0)
    for argument, value in enumerate(values):
        mask = memory.promise(argument, value)[1]
        memory.write(argument, mask, mask)
    kept = memory.frame()
    area = [byte ^ 255 ^ kept[at] for at, byte in enumerate(frame.area())]
    registers = {(group, number): frame[Register(group, number)] ^ (2 ** 64 - 1) ^ kept[Register(group, number)]
                 for group in ("whole", "float") for number in range(8)}
    return Frame(area + [3, 1, 4], registers)


class CallTest(RaisingTest):

    def test_calls(self):
        for plan, letters in product(PLANS, ROWS):
            signature = signature_of(letters)
            for values, garbage in product(some_values(signature), GARBAGE):
                frame = call(plan, signature, values, garbage)
                self.assertEqual(frame, Memory(plan, signature, values, garbage).frame(), (letters, values))

    def test_short_signatures(self):
        for plan in PLANS:
            for signature in signatures(BOOK, 2):
                for values in some_values(signature):
                    frame = call(plan, signature, values, [90, 7])
                    self.assertEqual(frame, Memory(plan, signature, values, [90, 7]).frame())
                    self.assertEqual(read_values(plan, signature, frame), values)
                    self.assertTrue(keeps(plan, signature, frame, values))

    def test_example(self):
        book = Book(Kind("a", size=1), Kind("w"))
        spread = Convention(book, wholes=1, fills={"a": Fill("sign", 16)})
        signature = Signature(book, "a", "a")
        frame = call(spread, signature, [129, 5], [170, 255])
        self.assertEqual(frame.area(), [5, 0, 170, 255, 170, 255, 170, 255])
        self.assertEqual(frame.registers()[("whole", 0)] % 2 ** 24, 11206529)
        self.assertEqual(read_values(spread, signature, frame), [129, 5])
        frame[1] = 1
        self.assertEqual(first_broken(spread, signature, frame, [129, 5]), (1, 8))

    def test_no_garbage(self):
        frame = call(PLANS[2], signature_of("aw"), [1, 2])
        self.assertEqual((frame.area(), frame.registers()), ([0] * 16, {("whole", 0): 1, ("whole", 1): 2}))
        self.assertEqual(call(PLANS[0], signature_of(""), []), Frame())

    def test_six_registers_of_garbage(self):
        frame = call(PLANS[2], signature_of(""), (), list(range(1, 65)))
        wanted = {}
        for at, key in enumerate([(group, number) for group in ("whole", "float") for number in range(3)]):
            wanted[key] = int.from_bytes(bytes(range(8 * at + 1, 8 * at + 9)), "little")
        self.assertEqual((frame.area(), frame.registers()), (list(range(49, 65)), wanted))

    def test_tuples_and_names(self):
        by_lists = call(PLANS[1], signature_of("ad"), [3, 4], [5, 6])
        by_names = call(garbage=(5, 6), values=(3, 4), signature=signature_of("ad"), convention=PLANS[1])
        self.assertEqual(by_lists, by_names)

    def test_nothing_is_shared(self):
        values, garbage = [3, 4], [5, 6]
        frame = call(PLANS[0], signature_of("ad"), values, garbage)
        before = frame.copy()
        values.append(9)
        garbage[0] = 0
        self.assertEqual(frame, before)
        frame[0] = 99
        self.assertEqual((values, garbage), ([3, 4, 9], [0, 6]))
        self.assertEqual(call(PLANS[0], signature_of("ad"), [3, 4], [5, 6]), before)

    def test_longest(self):
        book = Book(Kind("a", size=1, width=2), Kind("b", "float", size=16, align=16), Kind("c", size=16, align=1),
                    Kind("d", size=2, align=16), Kind("e", "float"))
        fills = {"a": Fill("sign", 128), "d": Fill("zeros", 20)}
        for slot in (4, 8):
            plan = Convention(book, wholes=3, floats=3, doubles="split", slot=slot, fills=fills)
            letters = ["..." if at == 500 else "abcde"[at * at % 7 % 5] for at in range(1000)]
            signature = Signature(book, *letters)
            values = list(some_values(signature))[3]
            frame = call(plan, signature, values, [1, 2, 3])
            self.assertEqual(frame, Memory(plan, signature, values, [1, 2, 3]).frame())
            self.assertEqual(read_values(plan, signature, frame), values)
            self.assertIsNone(first_broken(plan, signature, frame, values))
            frame[frame.size - 8] = frame[frame.size - 8] ^ 1
            self.assertEqual(first_broken(plan, signature, frame, values)[0], 998)


class ReadingTest(RaisingTest):

    def test_bits_that_no_callee_looks_at(self):
        for plan, letters in product(PLANS, ROWS):
            signature = signature_of(letters)
            for values in some_values(signature):
                frame = flipped(plan, signature, values, call(plan, signature, values, [77, 200]))
                before = frame.copy()
                self.assertEqual(read_values(plan, signature, frame), values)
                self.assertIsNone(first_broken(plan, signature, frame, values))
                self.assertIs(keeps(plan, signature, frame, values), True)
                self.assertEqual(frame, before)

    def test_each_bit_that_is_wrong(self):
        for plan, letters in product(PLANS, ("ad", "fwd.a")):
            signature = signature_of(letters)
            values = list(some_values(signature))[3]
            frame = call(plan, signature, values, [9])
            memory = Memory(plan, signature, values, [9])
            for argument, value in enumerate(values):
                mask = memory.promise(argument, value)[1]
                for bit in range(memory.layout.bits_of(argument)):
                    other = Memory(plan, signature, values, [9])
                    found = frame.copy()
                    turn = Memory(plan, signature, [], [])
                    turn.area, turn.registers = 0, dict.fromkeys(turn.registers, 0)
                    turn.write(argument, 1 << bit, 1 << bit)
                    turned = turn.frame()
                    for at in range(found.size):
                        found[at] = found[at] ^ turned[at]
                    for key in other.registers:
                        found[Register(*key)] = found[Register(*key)] ^ turned[Register(*key)]
                    wanted = (argument, bit) if mask >> bit & 1 else None
                    self.assertEqual(first_broken(plan, signature, found, values), wanted)
                    self.assertIs(keeps(plan, signature, found, values), wanted is None)

    def test_the_first_wrong_bit(self):
        plan, signature = PLANS[1], signature_of("aaaw")
        frame = call(plan, signature, [64, 1, 2, 3], [0])
        frame[Register("whole", 2)] = 2 + 16 + 8
        frame[frame.size - 1] = 1
        self.assertEqual(first_broken(plan, signature, frame, [64, 1, 2, 3]), (2, 3))
        self.assertEqual(first_broken(plan, signature, frame, [65, 1, 2, 3]), (0, 0))
        self.assertEqual(first_broken(plan, signature, frame, [0, 1, 2, 3]), (0, 6))
        frame[Register("whole", 2)] = 2 + 2 ** 16
        self.assertEqual(first_broken(plan, signature, frame, [64, 1, 2, 3]), (3, 56))

    def test_short_areas(self):
        plan, signature = Convention(BOOK, fills={"a": Fill("sign", 16)}), signature_of("aw")
        frame = call(plan, signature, [65, 2 ** 63 + 5])
        frame.resize(1)
        self.assertEqual(read_values(plan, signature, frame), [65, 0])
        self.assertEqual(first_broken(plan, signature, frame, [65, 2 ** 63 + 5]), (0, 8))
        self.assertEqual(first_broken(plan, signature, frame, [65, 0]), (0, 8))
        frame[0] = 1
        self.assertIsNone(first_broken(plan, signature, frame, [1, 0]))
        self.assertEqual(first_broken(plan, signature, frame, [1, 4]), (1, 2))
        self.assertEqual(read_values(plan, signature, Frame()), [0, 0])
        self.assertTrue(keeps(plan, signature, Frame(), [0, 0]))

    def test_values_of_a_short_width(self):
        book = Book(Kind("a", size=1, width=3))
        plan = Convention(book, fills={"a": Fill("zeros", 6)})
        signature = Signature(book, "a")
        self.assertEqual(read_values(plan, signature, Frame([255] * 8)), [7])
        self.assertEqual(first_broken(plan, signature, Frame([255] * 8), [7]), (0, 3))
        self.assertEqual(first_broken(plan, signature, Frame([192 + 7]), [7]), None)

    def test_by_names(self):
        frame = call(PLANS[0], signature_of("a"), [5])
        self.assertEqual(read_values(frame=frame, signature=signature_of("a"), convention=PLANS[0]), [5])
        named = {"values": (5,), "frame": frame, "signature": signature_of("a"), "convention": PLANS[0]}
        self.assertIsNone(first_broken(**named))
        self.assertIs(keeps(**named), True)


class WrongInputTest(RaisingTest):

    def actions(self):
        """Each function, with right values for its parameters, in sequence."""
        told = {"convention": PLANS[0], "signature": signature_of("aw"), "values": [1, 2], "garbage": [3]}
        yield call, told
        told = {"convention": PLANS[0], "signature": signature_of("aw"), "frame": Frame()}
        yield read_values, told
        for function in (first_broken, keeps):
            yield function, {**told, "values": [1, 2]}

    def wrong(self, name):
        """Wrong values for a parameter, with the error that they raise."""
        if name == "convention":
            return [(InvalidConvention, {"value": value}, value) for value in (*NO_COUNTS, 0, BOOK, "plan")]
        if name == "signature":
            return [(InvalidSignature, {"value": value}, value) for value in (*NO_STRINGS, "a", BOOK, PLANS[0])]
        if name == "frame":
            return [(InvalidFrame, {"value": value}, value) for value in (*NO_COUNTS, 0, [1], BOOK, PLANS[0])]
        if name == "garbage":
            none = [(InvalidBytes, {"position": None}, value) for value in (None, 5, "ab", b"ab", {}, {1}, Frame())]
            return none + [(InvalidBytes, {"position": 1}, [0, value, -1]) for value in (256, -1, True, None, "a", [1])]
        none = [(InvalidValues, {"position": None}, value) for value in (None, 5, "ab", b"ab", {}, {1}, [1, 2, 3])]
        first = [(InvalidValues, {"position": 0}, value) for value in ([], (), [128, 2], [True, 2], [-1, -1], [None])]
        wide = 2 ** 64
        return none + first + [(InvalidValues, {"position": 1}, value) for value in ([1], [1, wide], (1, "2"), [1, False])]

    def test_one_wrong_value(self):
        for function, told in self.actions():
            for name in told:
                for error_class, attributes, value in self.wrong(name):
                    given = {**told, name: value}
                    self.check_raises(error_class, attributes, function, **given)
                    self.check_raises(error_class, attributes, function, *given.values())

    def test_two_wrong_values(self):
        for function, told in self.actions():
            names = list(told)
            for at, first in enumerate(names):
                for second in names[at + 1:]:
                    if (first, second) == ("signature", "values"):
                        continue
                    error_class, attributes, value = self.wrong(first)[-1]
                    given = {**told, first: value, second: self.wrong(second)[0][2]}
                    self.check_raises(error_class, attributes, function, **given)

    def test_other_books(self):
        alien = signature_of("aw", ALIEN)
        for function, told in self.actions():
            given = {**told, "signature": alien}
            self.check_raises(OtherBook, {"one": BOOK, "other": ALIEN}, function, **given)
            for name in list(told)[2:]:
                error_class, attributes, value = self.wrong(name)[0]
                self.check_raises(error_class, attributes, function, **{**given, name: value})

    def test_values_are_those_of_the_signatures_book(self):
        alien = signature_of("aw", ALIEN)
        self.check_raises(OtherBook, {"one": BOOK, "other": ALIEN}, call, PLANS[0], alien, [255, 2])
        self.check_raises(InvalidValues, {"position": 0}, call, PLANS[0], alien, [256, 2])

    def test_wrong_calls_change_nothing(self):
        values, frame = [1, 2 ** 70], Frame([1, 2], {("whole", 0): 3})
        self.check_raises(InvalidValues, {"position": 1}, first_broken, PLANS[0], signature_of("aw"), frame, values)
        self.assertEqual((values, frame), ([1, 2 ** 70], Frame([1, 2], {("whole", 0): 3})))
