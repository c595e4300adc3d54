"""Passes in place: what is held, how much room is enough, and what comes out [81], [82]."""

from itertools import product

from tests.helpers import (
    ALIEN, BOOK, MANY, NO_COUNTS, NO_STRINGS, OVER, PLANS, SORT_PLANS, SORTS, WIDE, WIDE_PLANS, Dice, RaisingTest,
    signature_of,
)
from tests.test_leads import random_pairs
from unlikecalls.calls import call, first_broken, read_values
from unlikecalls.conventions import Convention
from unlikecalls.errors import (
    InvalidConvention, InvalidFrame, InvalidNumber, InvalidSignature, NoRoom, OtherBook,
)
from unlikecalls.fills import Fill
from unlikecalls.frames import Frame
from unlikecalls.kinds import Book, Kind
from unlikecalls.leads import greatest_lead, lead_signature, least_lead, least_room
from unlikecalls.passes import held, pass_backward, pass_forward
from unlikecalls.places import Register
from unlikecalls.signatures import Signature, signatures

ENOUGH = 10 ** 6
PASSES = (pass_forward, pass_backward)


def offsets_of(plan, signature):
    """The offsets behind 0, 1, 2, .. arguments."""
    offsets = [plan.home]
    for many in range(1, len(signature) + 1):
        if signature[many - 1] != "...":
            offsets.append((plan >> signature.before(many)).end)
    return offsets


def held_by_hand(first, second, signature, backward):
    """The numbers of the bytes that are held, counted one by one."""
    pairs = list(zip(offsets_of(first, signature), offsets_of(second, signature)))
    if backward:
        return [len(range(other, one)) for one, other in pairs[::-1]]
    return [len(range(one, other)) for one, other in pairs]


def bit_at(frame, piece, number):
    """A bit of a piece; bytes behind the area are 0."""
    if isinstance(piece, Register):
        return frame.registers().get((piece.group, piece.number), 0) >> number & 1
    byte = piece.offset + number // 8
    return frame.area()[byte] >> number % 8 & 1 if byte < frame.size else 0


def passed_by_hand(first, second, signature, frame):
    """The result, bit by bit, by the words of [82]."""
    layout, other = first >> signature, second >> signature
    area, registers = [0] * (8 * other.end), frame.registers()
    for argument, name in enumerate(signature.arguments()):
        bits = [bit_at(frame, piece, number) for piece in layout.pieces(argument) for number in range(piece.bits)]
        width, fill = first.book.kind(name).width, other.fill(argument)
        bits = (bits + [0] * 128)[:other.bits_of(argument)]
        for at in range(width, fill.extent or 0):
            bits[at] = 0 if fill.word == "zeros" else bits[width - 1]
        for piece in other.pieces(argument):
            row, bits = bits[:piece.bits], bits[piece.bits:]
            if isinstance(piece, Register):
                registers[piece.group, piece.number] = sum(bit << at for at, bit in enumerate(row))
            else:
                area[8 * piece.offset:8 * piece.end] = row
    return Frame([sum(area[at + bit] << bit for bit in range(8)) for at in range(0, len(area), 8)], registers)


def pass_in_place(first, second, signature, frame):
    """A pass forward that is really done in one area, with a queue for bytes that are written before they are read.

    The result, and how many bytes were in the queue at most.
    """
    layout, other = first >> signature, second >> signature
    area = frame.area() + [0] * (max(layout.end, other.end) - frame.size)
    registers, early, most = frame.copy(), {}, 0

    def write(at, byte, offset):
        # Bytes that are still to be read are kept until the first convention's offset is behind them.
        if at >= offset and at < layout.end and at not in early:
            early[at] = area[at]
        area[at] = byte

    def read(at):
        return early[at] if at in early else area[at]

    offsets, other_offsets = offsets_of(first, signature), offsets_of(second, signature)
    for at in range(second.home):
        write(at, 0, offsets[0])
    found = []
    for argument, name in enumerate(signature.arguments()):
        most = max(most, len([at for at in early if at >= offsets[argument]]))
        number, ahead = 0, 0
        for piece in layout.pieces(argument):
            if isinstance(piece, Register):
                number |= frame[piece] << ahead
            else:
                number |= sum(read(at) << 8 * (at - piece.offset) for at in range(piece.offset, piece.end)) << ahead
            ahead += piece.bits
        number %= 1 << other.bits_of(argument)
        width, fill = first.book.kind(name).width, other.fill(argument)
        for at in range(width, fill.extent or 0):
            bit = number >> (width - 1) & 1 if fill.word == "sign" else 0
            number = number | 1 << at if bit else number & ~(1 << at)
        behind = offsets[argument + 1]
        for at in range(other_offsets[argument], other_offsets[argument + 1]):
            write(at, 0, behind)
        for piece in other.pieces(argument):
            if isinstance(piece, Register):
                found.append((piece, number % 2 ** 64))
            else:
                for at in range(piece.offset, piece.end):
                    write(at, number >> 8 * (at - piece.offset) & 255, behind)
            number >>= piece.bits
    most = max(most, len([at for at in early if at >= offsets[-1]]))
    result = Frame(area[:other.end], registers.registers())
    for piece, number in found:
        result[piece] = number
    return result, most


class HeldTest(RaisingTest):

    def test_short_signatures(self):
        short = list(signatures(SORTS, 3))
        for first, second in product(SORT_PLANS, SORT_PLANS[::2]):
            for signature in short[::7]:
                for backward in (False, True):
                    self.assertEqual(held(first, second, signature, backward=backward),
                                     held_by_hand(first, second, signature, backward))

    def test_any_signatures(self):
        dice = Dice(8)
        for first, second in random_pairs(50, 12):
            for many in (1, 5, 20):
                signature = dice.signature(first.book, many)
                forward = held(signature=signature, second=second, first=first)
                self.assertEqual(forward, held_by_hand(first, second, signature, False))
                self.assertEqual(held(first, second, signature, backward=False), forward)
                back = held(first, second, signature, backward=True)
                self.assertEqual(back, held_by_hand(first, second, signature, True))
                self.assertEqual(len(forward), len(signature.arguments()) + 1)
                self.assertEqual(back, held(second, first, signature)[::-1])

    def test_home(self):
        first, second = Convention(BOOK, home=32), Convention(BOOK, slot=4)
        signature = signature_of("aa.a")
        self.assertEqual(held(first, second, signature), [0, 0, 0, 0])
        self.assertEqual(held(first, second, signature, backward=True), [44, 40, 36, 32])
        self.assertEqual(held(second, first, signature), [32, 36, 40, 44])
        self.assertEqual(held(second, first, signature, backward=True), [0, 0, 0, 0])
        for empty in (signature_of(""), signature_of(".")):
            self.assertEqual([held(first, second, empty), held(second, first, empty)], [[0], [32]])

    def test_beside_itself(self):
        for plan in PLANS:
            for backward in (False, True):
                self.assertEqual(held(plan, plan, signature_of("aw.aa"), backward=backward), [0] * 5)

    def test_greatest_lengths(self):
        signature = Signature(BOOK, *["a"] * 999, "...")
        forward = held(Convention(BOOK, slot=4), Convention(BOOK), signature)
        self.assertEqual(forward, [4 * many for many in range(1000)])
        self.assertEqual(held(Convention(BOOK), Convention(BOOK, slot=4), signature, backward=True), forward[::-1])

    def test_never_more_than_the_least_room(self):
        for first, second in random_pairs(40, 77):
            for signature in list(signatures(first.book, 3))[::9]:
                for backward in (False, True):
                    room = least_room(first, second, backward=backward)
                    self.assertTrue(room is None or max(held(first, second, signature, backward=backward)) <= room)
            if greatest_lead(first, second) is not None:
                found = max(held(first, second, lead_signature(first, second)))
                self.assertEqual(found, least_room(first, second))

    def test_lists_are_new(self):
        signature = signature_of("aa")
        held(PLANS[0], PLANS[2], signature).clear()
        self.assertEqual(len(held(PLANS[0], PLANS[2], signature)), 3)

    def test_wrong_inputs(self):
        signature = signature_of("a")
        for value in (*NO_COUNTS, 0, BOOK):
            self.check_raises(InvalidConvention, {"value": value}, held, value, 5, 6)
            self.check_raises(InvalidConvention, {"value": value}, held, PLANS[0], value, 6, backward=True)
        for value in (*NO_STRINGS, "a"):
            self.check_raises(InvalidSignature, {"value": value}, held, PLANS[0], Convention(ALIEN), value)
        self.check_raises(OtherBook, {"one": BOOK, "other": ALIEN}, held, PLANS[0], PLANS[1], signature_of("a", ALIEN))
        self.check_raises(OtherBook, {"one": BOOK, "other": ALIEN}, held, PLANS[0], Convention(ALIEN), signature)
        with self.assertRaises(TypeError):
            held(PLANS[0], PLANS[1], signature, True)


class ResultTest(RaisingTest):

    def check_result(self, first, second, signature, frame):
        wanted = passed_by_hand(first, second, signature, frame)
        before = frame.copy()
        for function in PASSES:
            found = function(first, second, signature, frame, ENOUGH)
            self.assertEqual(found, wanted)
            self.assertEqual((found.area(), found.registers()), (wanted.area(), wanted.registers()))
            self.assertEqual(found.size, (second >> signature).end)
            self.assertIs(type(found), Frame)
            self.assertEqual(frame, before)

    def test_short_signatures(self):
        dice, short = Dice(1), list(signatures(SORTS, 3))
        for first, second in product(SORT_PLANS, SORT_PLANS):
            for _ in range(2):
                self.check_result(first, second, dice.pick(short), dice.frame())

    def test_any_signatures(self):
        dice = Dice(2)
        for first, second in random_pairs(70, 2):
            for many in (0, 1, 4, 10):
                signature = dice.signature(first.book, many)
                for most in (1, 20, 300):
                    self.check_result(first, second, signature, dice.frame(most))

    def test_in_one_area(self):
        """A pass that is done in one area gives this result, and has to keep no more bytes than are held."""
        dice, found = Dice(6), []
        for first, second in random_pairs(60, 21):
            for many in (1, 3, 8):
                signature, frame = dice.signature(first.book, many), dice.frame(200)
                result, most = pass_in_place(first, second, signature, frame)
                self.assertEqual(pass_forward(first, second, signature, frame, ENOUGH), result)
                self.assertLessEqual(most, max(held(first, second, signature)))
                found.append(most)
        self.assertGreater(max(found), 16)

    def test_registers_that_are_no_pieces(self):
        registers = {(group, number): 2 ** 64 - 1 - number for group in ("whole", "float") for number in range(8)}
        frame = Frame([5, 6, 7], registers)
        first, second = Convention(BOOK, wholes=1), Convention(BOOK, wholes=2)
        found = pass_forward(first, second, signature_of("aa"), frame, 0)
        self.assertEqual(found.registers(), {**registers, ("whole", 1): 5 + 6 * 256 + 7 * 65536})
        self.assertEqual(found.area(), [])
        self.assertEqual(pass_backward(first, second, signature_of(""), frame, 0).registers(), registers)

    def test_bits_that_are_filled_up(self):
        first, second = Convention(BOOK, slot=4), Convention(BOOK, wholes=1, fills={"a": Fill("sign", 20)})
        frame = Frame([0x81, 0xff, 0xff, 0xff, 9], {("whole", 0): 2 ** 64 - 1})
        found = pass_forward(first, second, signature_of("a"), frame, 0)
        self.assertEqual(found, Frame([], {("whole", 0): 0xffffff81}))
        frame[0] = 0x71
        self.assertEqual(pass_backward(first, second, signature_of("a"), frame, 4)[Register("whole", 0)], 0xfff00071)
        zeros = Convention(BOOK, fills={"a": Fill("zeros", 100)})
        self.assertEqual(pass_forward(first, zeros, signature_of("a"), frame, 4).area(), [0x71] + [0] * 7)

    def test_cut_fills_and_halves(self):
        book = Book(Kind("d", size=16, width=70))
        first = Convention(book, wholes=3, doubles="split")
        second = Convention(book, wholes=1, doubles="split", slot=4, fills={"d": Fill("sign", 128)})
        frame = Frame([255] * 40, {("whole", 0): 1, ("whole", 1): 0x60, ("whole", 2): 3})
        found = pass_forward(first, second, Signature(book, "d", "d"), frame, 30)
        high = [0xe0] + [255] * 7
        registers = {("whole", 0): 1, ("whole", 1): 0x60, ("whole", 2): 3}
        self.assertEqual(found, Frame(high + [0] * 8 + [3] + [0] * 7 + [255] * 8, registers))

    def test_values_are_read_back(self):
        dice = Dice(13)
        for first, second in list(random_pairs(50, 4)) + list(zip(PLANS, PLANS[1:])) + list(zip(WIDE_PLANS, WIDE_PLANS[1:])):
            for many in (1, 3, 7):
                signature = dice.signature(first.book, many)
                values = [dice.roll(2 ** 31) ** 5 % 2 ** first.book.kind(name).width for name in signature.arguments()]
                frame = call(first, signature, values, [dice.roll(256) for _ in range(dice.roll(4))])
                for function in PASSES:
                    found = function(first, second, signature, frame, ENOUGH)
                    self.assertEqual(read_values(second, signature, found), values)
                    self.assertIsNone(first_broken(second, signature, found, values))

    def test_greatest_lengths(self):
        book = Book(Kind("d", size=16))
        signature = Signature(book, *["d"] * 1000)
        first, second = Convention(book, home=32), Convention(book, wholes=3)
        frame = Frame([at * 7 % 251 for at in range(20000)])
        found = pass_forward(first, second, signature, frame, 0)
        self.assertEqual(found.area(), frame.area()[32 + 16:32 + 16000])
        self.assertEqual(found.registers()["whole", 0] % 256, frame[32])
        back = pass_backward(second, first, signature, found, 0)
        self.assertEqual(back.area(), [0] * 32 + frame.area()[32:32 + 16000])

    def test_frames_are_not_shared(self):
        frame = Frame([1] * 8, {("whole", 5): 3})
        found = pass_forward(PLANS[0], PLANS[0], signature_of("a"), frame, 0)
        found[0] = 77
        found[Register("whole", 5)] = 9
        self.assertEqual(frame, Frame([1] * 8, {("whole", 5): 3}))


class RoomTest(RaisingTest):

    def check_rooms(self, first, second, signature, frame):
        for function, backward in zip(PASSES, (False, True)):
            row = held(first, second, signature, backward=backward)
            enough = function(first, second, signature, frame, max(row))
            self.assertEqual(enough, passed_by_hand(first, second, signature, frame))
            self.assertEqual(function(first, second, signature, frame, max(row) + 1), enough)
            for room in {0, max(row) // 2, max(row) - 1} if max(row) > 0 else ():
                moved = [many > room for many in row].index(True)
                self.check_raises(NoRoom, {"moved": moved}, function, first, second, signature, frame, room)

    def test_all_sorts(self):
        dice, short = Dice(44), list(signatures(SORTS, 4))
        for first, second in product(SORT_PLANS, SORT_PLANS):
            self.check_rooms(first, second, dice.pick(short), dice.frame())
        for first, second in random_pairs(60, 19):
            self.check_rooms(first, second, dice.signature(first.book, dice.roll(12)), dice.frame())

    def test_the_least_number_of_moved_arguments(self):
        first, second = Convention(BOOK, slot=4), Convention(BOOK)
        signature, frame = signature_of("a.aaa"), Frame()
        for room, moved in ((0, 1), (3, 1), (4, 2), (7, 2), (8, 3), (15, 4)):
            self.check_raises(NoRoom, {"moved": moved}, pass_forward, first, second, signature, frame, room)
        self.assertEqual(pass_forward(first, second, signature, frame, 16).size, 32)
        for room, moved in ((0, 0), (15, 0)):
            self.check_raises(NoRoom, {"moved": moved}, pass_backward, second, first, signature, frame, room)
        self.check_raises(NoRoom, {"moved": 0}, pass_forward, first, second.changed(home=16), signature, frame, 15)
        self.check_raises(NoRoom, {"moved": 1}, pass_forward, first, second.changed(home=16), signature, frame, 16)
        for room, moved in ((15, 0), (16, 1), (20, 2), (24, 3), (28, 4)):
            self.check_raises(NoRoom, {"moved": moved}, pass_backward, first.changed(home=32), second, signature, frame, room)

    def test_least_room_for_all(self):
        for first, second in random_pairs(40, 55):
            room = least_room(first, second)
            if room is None:
                continue
            worst = lead_signature(first, second)
            pass_forward(first, second, worst, Frame(), room)
            if room > 0:
                self.assertRaises(NoRoom, pass_forward, first, second, worst, Frame(), room - 1)
            self.assertEqual(least_lead(second, first), -greatest_lead(first, second))

    def test_no_limit_of_joint_states(self):
        for first, second in (OVER, MANY):
            self.check_rooms(first, second, Signature(first.book, "a", "b", "...", "c", "b"), Frame([7] * 30))


class WrongInputTest(RaisingTest):

    def test_one_wrong_input(self):
        given = [PLANS[0], PLANS[1], signature_of("a"), Frame([1, 2]), 5]
        names = ("first", "second", "signature", "frame", "room")
        errors = (InvalidConvention, InvalidConvention, InvalidSignature, InvalidFrame, InvalidNumber)
        for function in PASSES:
            for at, error in enumerate(errors):
                for value in (*NO_COUNTS, BOOK):
                    wrong = given[:at] + [value] + given[at + 1:]
                    self.check_raises(error, {"value": value}, function, *wrong)
                    self.check_raises(error, {"value": value}, function, **dict(zip(names[::-1], wrong[::-1])))
                    several = given[:at] + [value] + ["wrong"] * (4 - at)
                    self.check_raises(error, {"value": value}, function, *several)
            self.assertEqual(given[3], Frame([1, 2]))

    def test_other_books(self):
        alien, signature, frame = Convention(ALIEN), signature_of("aaa"), Frame()
        for function in PASSES:
            for first, second, one, other in ((PLANS[0], alien, BOOK, ALIEN), (alien, PLANS[0], ALIEN, BOOK)):
                self.check_raises(OtherBook, {"one": one, "other": other}, function, first, second, signature, frame, 0)
            self.check_raises(OtherBook, {"one": BOOK, "other": WIDE}, function, PLANS[2], PLANS[0], Signature(WIDE), frame, 0)
            # A room that is none comes ahead of books that differ, and these ahead of a room that is not enough.
            self.check_raises(InvalidNumber, {"value": -1}, function, PLANS[0], alien, signature, frame, -1)
            self.check_raises(InvalidNumber, {"value": True}, function, PLANS[0], PLANS[0], signature, frame, True)
