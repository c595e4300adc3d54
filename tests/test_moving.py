"""Orders of the arguments of a known signature, and moves of their registers [84], [85]."""

from itertools import permutations, product

from tests.helpers import (
    ALIEN, BOOK, MANY, NO_COUNTS, NO_STRINGS, OVER, PLANS, SORT_PLANS, SORTS, WIDE, WIDE_PLANS, Dice, RaisingTest,
    signature_of,
)
from tests.test_leads import random_pairs
from tests.test_passes import passed_by_hand
from unlikecalls.calls import call, read_values
from unlikecalls.conventions import Convention
from unlikecalls.errors import (
    InvalidConvention, InvalidFrame, InvalidOrder, InvalidSignature, OtherBook,
)
from unlikecalls.frames import Frame
from unlikecalls.kinds import Book, Kind
from unlikecalls.orders import (
    exchanges, find_order, is_order, least_exchanges, move_all, moves_in_sequence, moves_with_spare, register_moves,
    single_moves, waits,
)
from unlikecalls.passes import pass_backward, pass_forward
from unlikecalls.places import Register, Slots
from unlikecalls.signatures import Signature, signatures

ENOUGH = 10 ** 6
QUESTIONS = (waits, find_order, register_moves, single_moves, exchanges, moves_with_spare)


def bytes_of(plan, signature):
    """For each argument the set of the bytes of its slots."""
    layout = plan >> signature
    return [{byte for piece in layout.pieces(argument) if isinstance(piece, Slots) for byte in range(piece.offset, piece.end)}
            for argument in range(len(layout))]


def waits_by_hand(first, second, signature):
    old, new = bytes_of(first, signature), bytes_of(second, signature)
    return [(one, other) for one in range(len(new)) for other in range(len(old)) if one != other and new[one] & old[other]]


def is_order_by_hand(first, second, signature, row):
    many = len(signature.arguments())
    return sorted(row) == list(range(many)) and all(
        row.index(one) > row.index(other) for one, other in waits_by_hand(first, second, signature))


def some_cases(count, seed, most=9):
    dice = Dice(seed)
    for first, second in random_pairs(count, seed):
        yield first, second, dice.signature(first.book, dice.roll(most))


def move_in_place(first, second, signature, frame, order):
    """The arguments moved one after another in one area, each read as a whole and then written."""
    layout, other = first >> signature, second >> signature
    area = Frame(frame.area() + [0] * (max(layout.end, other.end) - frame.size), frame.registers())
    new, registers = {}, {}
    for argument in order:
        bits = [bit for piece in layout.pieces(argument)
                for bit in (frame if isinstance(piece, Register) else area).bits_at(piece)]
        bits = (bits + [0] * 128)[:other.bits_of(argument)]
        width, fill = first.book.kind(signature.arguments()[argument]).width, other.fill(argument)
        for at in range(width, fill.extent or 0):
            bits[at] = 0 if fill.word == "zeros" else bits[width - 1]
        for piece in other.pieces(argument):
            if isinstance(piece, Register):
                registers[repr(piece)] = (piece, bits[:piece.bits])
            else:
                area.put(piece, bits[:piece.bits])
                new.update({byte: True for byte in range(piece.offset, piece.end)})
            bits = bits[piece.bits:]
    for piece, row in registers.values():
        area.put(piece, row)
    area.resize(other.end)
    for byte in range(other.end):
        if byte not in new:
            area[byte] = 0
    return area


class OrderTest(RaisingTest):

    def test_waits(self):
        short = list(signatures(SORTS, 4))
        found = set()
        for first, second in product(SORT_PLANS, SORT_PLANS):
            for signature in short[SORT_PLANS.index(first) + 40 * SORT_PLANS.index(second) % 90::101]:
                row = waits(first, second, signature)
                self.assertEqual(row, waits_by_hand(first, second, signature))
                found.add(len(row))
        for first, second, signature in some_cases(120, 3, 14):
            row = waits(signature=signature, second=second, first=first)
            self.assertEqual(row, waits_by_hand(first, second, signature))
            self.assertEqual([type(part) for part in row], [tuple] * len(row))
            found.add(len(row))
        self.assertGreater(len(found), 5)

    def test_ways_to_overlap(self):
        fours, eights, late = Convention(BOOK, slot=4), Convention(BOOK), Convention(BOOK, home=16)
        self.assertEqual(waits(fours, eights, signature_of("aaaa")), [(0, 1), (1, 2), (1, 3)])
        self.assertEqual(waits(eights, fours, signature_of("aa.aa")), [(1, 0), (2, 1), (3, 1)])
        self.assertEqual(waits(eights, late, signature_of("www")), [(0, 2)])
        self.assertEqual(waits(late, eights, signature_of("www")), [(2, 0)])
        self.assertEqual(waits(eights, eights, signature_of("aawa")), [])
        self.assertEqual(waits(eights, Convention(BOOK, wholes=3), signature_of("aaa")), [])
        self.assertEqual(waits(Convention(BOOK, wholes=3), eights, signature_of("aaa")), [])
        one, other = Convention(SORTS, wholes=1, doubles="split"), Convention(SORTS)
        self.assertEqual(waits(one, other, signature_of("dd", SORTS)), [(0, 1)])
        self.assertEqual(waits(other, one, signature_of("dd", SORTS)), [(1, 0)])

    def test_found_orders(self):
        for first, second, signature in some_cases(150, 8, 20):
            row = find_order(first, second, signature)
            self.assertTrue(is_order_by_hand(first, second, signature, row))
            self.assertIs(is_order(first, second, signature, row), True)
            self.assertIs(type(row), list)
        for first, second in product(PLANS, PLANS):
            for signature in list(signatures(BOOK, 4))[::13]:
                self.assertTrue(is_order_by_hand(first, second, signature, find_order(first, second, signature)))
        self.assertEqual(find_order(PLANS[0], PLANS[1], signature_of(".")), [])

    def test_all_permutations(self):
        found = {True: 0, False: 0}
        for first, second, signature in some_cases(60, 14, 6):
            for row in permutations(range(len(signature.arguments()))):
                wanted = is_order_by_hand(first, second, signature, list(row))
                self.assertIs(is_order(first, second, signature, list(row)), wanted)
                self.assertIs(is_order(first, second, signature, row), wanted)
                found[wanted] += 1
        self.assertGreater(min(found.values()), 50)

    def test_other_values(self):
        first, second, signature = Convention(BOOK, slot=4), Convention(BOOK), signature_of("aaa")
        self.assertIs(is_order(value=[2, 1, 0], first=first, second=second, signature=signature), True)
        self.assertIs(is_order(first, second, signature, [1, 2, 0]), False)
        self.assertIs(is_order(first, second, signature, [2, 0, 1]), False)
        # Arguments that stand in no other one's way may be exchanged.
        self.assertIs(is_order(first, second, signature_of("aaaa"), [3, 2, 1, 0]), True)
        self.assertIs(is_order(first, second, signature_of("aaaa"), [2, 3, 1, 0]), True)
        self.assertIs(is_order(first, second, signature_of("aaaa"), [2, 3, 0, 1]), False)
        none = [*NO_COUNTS, 0, "210", {2: 2, 1: 1, 0: 0}, {0, 1, 2}, [2, 1], [2, 1, 0, 0], [2, 1, 0, 3], [2, 1, 1], [2, 1, -1],
                [2, 1, False], [2, True, 0], [2, "1", 0], [None, 1, 0], [[2], 1, 0], [2, 1, None], [3, 2, 1], [2, 1, 10 ** 40],
                [(2, 1, 0)], signature, [2, 2, 1, 0]]
        for value in none:
            self.assertIs(is_order(first, second, signature, value), False, value)
        for value in ([], ()):
            self.assertIs(is_order(first, second, signature_of("."), value), True)
        self.assertIs(is_order(first, second, signature_of(""), [0]), False)
        self.assertIs(is_order(first, second, signature_of("a"), [False]), False)

    def test_greatest_lengths(self):
        signature = Signature(BOOK, *["a"] * 999, "...")
        first, second = Convention(BOOK, slot=4), Convention(BOOK, home=32)
        row = find_order(first, second, signature)
        self.assertIs(is_order(first, second, signature, row), True)
        self.assertIs(is_order(first, second, signature, row[::-1]), False)
        self.assertIs(is_order(first, second, signature, list(range(998, -1, -1))), True)
        frame = Frame([at * 7 % 251 for at in range(9000)])
        self.assertEqual(move_all(first, second, signature, frame, row), pass_backward(first, second, signature, frame, ENOUGH))

    def test_lists_are_new(self):
        first, second, signature = Convention(BOOK, slot=4), Convention(BOOK), signature_of("aaa")
        for function in (waits, find_order):
            before = list(function(first, second, signature))
            function(first, second, signature).clear()
            self.assertEqual(function(first, second, signature), before)


class MoveAllTest(RaisingTest):

    def test_found_orders(self):
        dice = Dice(40)
        for first, second, signature in some_cases(100, 22):
            frame = dice.frame(200)
            before, order = frame.copy(), find_order(first, second, signature)
            found = move_all(first, second, signature, frame, order)
            self.assertEqual(found, passed_by_hand(first, second, signature, frame))
            self.assertEqual(found, pass_forward(first, second, signature, frame, ENOUGH))
            self.assertEqual(found, pass_backward(first, second, signature, frame, ENOUGH))
            self.assertEqual(found, move_in_place(first, second, signature, frame, order))
            self.assertEqual(frame, before)
            self.assertEqual(order, find_order(first, second, signature))

    def test_other_orders(self):
        dice, found = Dice(41), {True: 0, False: 0}
        for first, second, signature in some_cases(50, 31, 6):
            frame = dice.frame(100)
            for row in list(permutations(range(len(signature.arguments()))))[::3]:
                right = is_order(first, second, signature, row)
                found[right] += 1
                if right:
                    moved = move_all(first, second, signature, frame, row)
                    self.assertEqual(moved, passed_by_hand(first, second, signature, frame))
                    self.assertEqual(moved, move_in_place(first, second, signature, frame, row))
                else:
                    self.check_raises(InvalidOrder, {"value": row}, move_all, first, second, signature, frame, row)
        self.assertGreater(min(found.values()), 20)

    def test_values_are_read_back(self):
        dice = Dice(2)
        for first, second, signature in some_cases(50, 61):
            values = [dice.roll(2 ** 31) ** 4 % 2 ** first.book.kind(name).width for name in signature.arguments()]
            frame = call(first, signature, values, [90, 165])
            found = move_all(first, second, signature, frame, find_order(first, second, signature))
            self.assertEqual(read_values(second, signature, found), values)

    def test_wrong_inputs(self):
        given = [PLANS[2], PLANS[0], signature_of("aaa"), Frame([1, 2]), [2, 1, 0]]
        names = ("first", "second", "signature", "frame", "order")
        errors = (InvalidConvention, InvalidConvention, InvalidSignature, InvalidFrame, InvalidOrder)
        for at, error in enumerate(errors):
            for value in (*NO_COUNTS, BOOK):
                wrong = given[:at] + [value] + given[at + 1:]
                self.check_raises(error, {"value": value}, move_all, *wrong)
                self.check_raises(error, {"value": value}, move_all, **dict(zip(names[::-1], wrong[::-1])))
                self.check_raises(error, {"value": value}, move_all, *given[:at], value, *["wrong"] * (4 - at))
        for order in ([0, 1, 2], [2, 1], (2, 1, True), [2, 1, 0, 3]):
            self.check_raises(InvalidOrder, {"value": order}, move_all, *given[:4], order)
            # Books that differ come ahead of an order that is none.
            self.check_raises(OtherBook, {"one": BOOK, "other": ALIEN}, move_all, PLANS[0], Convention(ALIEN), *given[2:4], order)
            self.check_raises(OtherBook, {"one": BOOK, "other": ALIEN}, move_all, *given[:2], signature_of("a", ALIEN), given[3], order)
        self.assertEqual(given[3], Frame([1, 2]))


class RegisterTest(RaisingTest):

    def moves_by_hand(self, first, second, signature):
        """The pairs of different registers that have the same half of an argument, by the words of [85]."""
        pairs = []
        layout, other = first >> signature, second >> signature
        for argument in range(len(layout)):
            sides = []
            for each in (layout, other):
                halves, half = {}, 0
                for piece in each.pieces(argument):
                    if isinstance(piece, Register):
                        halves[half] = piece
                    half += piece.bits // 64
                sides.append(halves)
            for half in (0, 1):
                if half in sides[0] and half in sides[1] and sides[0][half] != sides[1][half]:
                    pairs.append((sides[0][half], sides[1][half]))
        return sorted(pairs, key=lambda pair: (pair[0].group, pair[0].number))

    def check_moves(self, first, second, signature):
        moves = register_moves(first, second, signature)
        self.assertEqual(moves, self.moves_by_hand(first, second, signature))
        row = moves_with_spare(first, second, signature)
        self.assertEqual([type(part) for part in (moves, row, *moves, *row)], [list, list] + [tuple] * (len(moves) + len(row)))
        # All conventions give registers in rising sequence, so there are paths alone.
        self.assertEqual((single_moves(first, second, signature), exchanges(first, second, signature)), (len(moves), len(moves)))
        self.check_row(moves, row)
        return len(moves)

    def check_row(self, moves, row):
        """The moves, one after another, bring everything where it belongs."""
        content = {repr(source): repr(source) for source, _ in moves}
        for source, target in row:
            content[repr(target)] = content[repr(source)]
        for source, target in moves:
            self.assertEqual(content[repr(target)], repr(source))

    def test_all_sorts(self):
        found, short = set(), list(signatures(SORTS, 4))
        for first, second in product(SORT_PLANS, SORT_PLANS):
            for signature in short[(3 * SORT_PLANS.index(first) + 7 * SORT_PLANS.index(second)) % 40::43]:
                found.add(self.check_moves(first, second, signature))
        for first, second, signature in some_cases(200, 91):
            found.add(self.check_moves(first, second, signature))
        self.assertGreater(len(found), 2)

    def test_halves(self):
        whole = [Register("whole", number) for number in range(4)]
        plain, even = Convention(WIDE, wholes=3), Convention(WIDE, wholes=3, doubles="even")
        split = Convention(WIDE, wholes=2, doubles="split")
        self.assertEqual(register_moves(plain, even, signature_of("ad", WIDE)), [])
        self.assertEqual(register_moves(plain, split, signature_of("ad", WIDE)), [])
        self.assertEqual(register_moves(plain, plain, signature_of("ad", WIDE)), [])
        book = Book(Kind("a"), Kind("d", size=16), Kind("f", "float"), Kind("g", "float", size=16))
        one = Convention(book, wholes=3, floats=3)
        other = Convention(book, wholes=3, floats=3, together=True)
        self.assertEqual(register_moves(one, other, Signature(book, "f", "d")), [(whole[0], whole[1]), (whole[1], whole[2])])
        self.assertEqual(moves_with_spare(one, other, Signature(book, "f", "d")), [(whole[1], whole[2]), (whole[0], whole[1])])
        self.assertEqual(register_moves(other, one, Signature(book, "f", "d")), [(whole[1], whole[0]), (whole[2], whole[1])])
        self.assertEqual(moves_with_spare(other, one, Signature(book, "f", "d")), [(whole[1], whole[0]), (whole[2], whole[1])])
        floats = [Register("float", number) for number in range(3)]
        self.assertEqual(register_moves(one, other, Signature(book, "a", "f", "a", "f")),
                         [(floats[0], floats[1]), (whole[1], whole[2])])
        self.assertEqual(register_moves(one, other.changed(doubles="split"), Signature(book, "a", "a", "d")), [])
        self.assertEqual(register_moves(one, other.changed(doubles="split"), Signature(book, "f", "f", "d")), [(whole[0], whole[2])])
        self.assertEqual(register_moves(one.changed(doubles="split"), other, Signature(book, "a", "g", "f")), [(floats[0], floats[1]), (floats[1], floats[2])])

    def test_rings_and_paths(self):
        """No convention makes rings; what they would cost is told all the same."""
        whole = [Register("whole", number) for number in range(8)]
        for rows, rings in (([[0, 1, 0]], 1), ([[0, 1, 2, 0]], 1), ([[0, 1, 0], [2, 3, 4, 2]], 2), ([[0, 1, 2], [3, 4, 3]], 1),
                            ([[3, 2, 1, 0], [5, 6]], 0), ([[0, 1, 0], [2, 3, 2], [4, 5, 4], [6, 7]], 3), ([], 0)):
            moves = [(whole[one], whole[other]) for row in rows for one, other in zip(row, row[1:])]
            done = moves_in_sequence(moves)
            self.assertEqual(len(done), len(moves) + rings)
            self.check_row(moves, done)
            self.assertEqual(len([source for source, _ in done if source is None]), rings)
            self.assertEqual(least_exchanges(moves), sum(len(set(row)) - 1 for row in rows))

    def test_lists_are_new(self):
        book = Book(Kind("a"), Kind("f", "float"))
        one, other = Convention(book, wholes=3, floats=3), Convention(book, wholes=3, floats=3, together=True)
        for function in (register_moves, moves_with_spare):
            before = list(function(one, other, Signature(book, "f", "a")))
            self.assertEqual(len(before), 1)
            function(one, other, Signature(book, "f", "a")).clear()
            self.assertEqual(function(one, other, Signature(book, "f", "a")), before)


class WrongInputTest(RaisingTest):

    def test_questions(self):
        signature = signature_of("a")
        for function in QUESTIONS + (is_order,):
            more = (None,) if function is is_order else ()
            for value in (*NO_COUNTS, 0, BOOK, signature):
                self.check_raises(InvalidConvention, {"value": value}, function, value, 5, 6, *more)
                self.check_raises(InvalidConvention, {"value": value}, function, PLANS[0], value, 6, *more)
            for value in (*NO_STRINGS, "a", BOOK):
                self.check_raises(InvalidSignature, {"value": value}, function, PLANS[0], Convention(ALIEN), value, *more)
            alien = signature_of("a", ALIEN)
            self.check_raises(OtherBook, {"one": BOOK, "other": ALIEN}, function, PLANS[0], PLANS[0], alien, *more)
            self.check_raises(OtherBook, {"one": BOOK, "other": ALIEN}, function, PLANS[0], Convention(ALIEN), signature, *more)
            self.check_raises(OtherBook, {"one": ALIEN, "other": BOOK}, function, Convention(ALIEN), PLANS[0], alien, *more)
            named = {"value": None} if more else {}
            self.check_raises(InvalidConvention, {"value": 8}, function, signature=7, second=9, first=8, **named)

    def test_no_limit_of_joint_states(self):
        for first, second in (OVER, MANY):
            signature = Signature(first.book, "a", "b", "...", "c", "b", "a")
            row = find_order(first, second, signature)
            self.assertIs(is_order(first, second, signature, row), True)
            self.assertEqual(moves_with_spare(first, second, signature), moves_with_spare(first, second, signature))

    def test_conventions_of_wide_books(self):
        for first, second in zip(WIDE_PLANS, WIDE_PLANS[1:]):
            signature = signature_of("dafda.ff", WIDE)
            self.assertTrue(is_order_by_hand(first, second, signature, find_order(first, second, signature)))
