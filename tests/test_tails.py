"""Blind adapters: the shifts by which they pass on tails [91]."""

from itertools import product

from tests.helpers import (
    ALIEN, BOOK, FULL, MANY, NO_COUNTS, NO_STRINGS, OVER, PLANS, SORT_PLANS, SORTS, WIDE, WIDE_PLANS, Dice, RaisingTest,
    first_ways, signature_of,
)
from tests.test_leads import random_pairs
from unlikecalls.conventions import Convention
from unlikecalls.errors import InvalidConvention, InvalidSignature, OtherBook, TooMany
from unlikecalls.fills import Fill
from unlikecalls.kinds import Book, Kind
from unlikecalls.places import Slots
from unlikecalls.signatures import Signature, signatures
from unlikecalls.tails import is_tail_fault, tail_fault, tail_shift

LIMIT = {"what": "joint states", "limit": 400}


def bits_of(fill, width):
    """The bits of a cut fill, each with its word."""
    return {(bit, fill.word) for bit in range(width, fill.extent or 0)}


def shifts_between(pieces, others):
    """What shifts are right for one argument: a list of those that are wanted, None if none is right."""
    if len(pieces) != len(others):
        return None
    found = []
    for one, other in zip(pieces, others):
        if isinstance(one, Slots) and isinstance(other, Slots):
            found.append(other.offset - one.offset)
        elif one != other:
            return None
    return found


def shifts_of(first, second, signature):
    """The set of the shifts that the tail of a signature wants, None if none is right, by the words of [91]."""
    layout, other = first >> signature, second >> signature
    found = set()
    for argument in range(len(signature.arguments()) - len(signature.tail_names()), len(layout)):
        width = signature.book.kind(signature.arguments()[argument]).width
        wanted = shifts_between(layout.pieces(argument), other.pieces(argument))
        if wanted is None or not bits_of(other.fill(argument), width) <= bits_of(layout.fill(argument), width):
            return None
        found.update(wanted)
    return found


def shift_by_hand(first, second, named):
    """The shift that is right for all tails behind a named part; None if there is none."""
    layouts = first >> named, second >> named
    queue = [tuple(layout.states()[-1] for layout in layouts)]
    leads, shifts = {queue[0]: layouts[1].end - layouts[0].end}, set()
    while queue:
        states = queue.pop()
        for name in first.book.names():
            (pieces, one, growth), (others, other, other_growth) = first.step(states[0], name), second.step(states[1], name)
            width = first.book.kind(name).width
            fills = [bits_of(plan.fill(name).cut(width, sum(piece.bits for piece in row)), width)
                     for plan, row in ((first, pieces), (second, others))]
            wanted = shifts_between(pieces, others)
            if wanted is None or not fills[1] <= fills[0]:
                return None
            shifts.update([leads[states] + shift for shift in wanted])
            behind = leads[states] + other_growth - growth
            # From each joint state on some slots come, which want one shift for each lead.
            if (one, other) not in leads:
                leads[one, other] = behind
                queue.append((one, other))
            if leads[one, other] != behind or len(shifts) > 1:
                return None
    return shifts.pop()


def pairs():
    """Conventions that often pass on tails, and often do not."""
    dice = Dice(70)
    for first, second in random_pairs(60, 70):
        yield first, second
        other = first.changed(home=dice.pick((0, 16, 32)), wholes=dice.roll(4), fills=None)
        if len(first_ways([first, other])) <= 400:
            yield first, other
    for plan in SORT_PLANS:
        yield plan, plan
        yield plan, plan.changed(home=32, fills={"a": Fill("sign", 20)})
        yield plan.changed(fills={"a": Fill("sign", 20)}), plan.changed(home=16, fills={"a": Fill("sign", 10)})
        yield plan.changed(tail="slots"), plan.changed(tail="slots", wholes=3, doubles="split")


class ShiftTest(RaisingTest):

    def test_short_named_parts(self):
        found = {True: 0, False: 0}
        for first, second in pairs():
            for signature in signatures(first.book, 3):
                if signature.has_mark and len(signature.named()) == len(signature):
                    shift = tail_shift(first, second, signature)
                    self.assertEqual(shift, shift_by_hand(first, second, signature))
                    found[shift is None] += 1
        self.assertGreater(min(found.values()), 200)

    def test_longer_ones_and_tails(self):
        dice, found = Dice(12), {True: 0, False: 0}
        for first, second in pairs():
            letters = [dice.pick(first.book.names()) for _ in range(dice.roll(12))]
            named = Signature(first.book, *letters, "...")
            shift = tail_shift(signature=named, second=second, first=first)
            self.assertEqual(shift, shift_by_hand(first, second, named))
            for _ in range(3):
                tail = [dice.pick(first.book.names()) for _ in range(dice.roll(6))]
                self.assertEqual(tail_shift(first, second, Signature(first.book, *letters, "...", *tail)), shift)
            found[shift is None] += 1
        self.assertGreater(min(found.values()), 20)

    def test_right_for_all_short_tails(self):
        for first, second in list(pairs())[::3]:
            for named in (Signature(first.book, "..."), Signature(first.book, first.book.names()[-1], "...")):
                shift = tail_shift(first, second, named)
                if shift is not None:
                    found = [shifts_of(first, second, named + tail) for tail in signatures(first.book, 4, mark=False)]
                    self.assertEqual(set().union(*found), {shift})

    def test_examples(self):
        plan = Convention(BOOK, wholes=1)
        for home in (0, 16, 32):
            self.assertEqual(tail_shift(plan, plan.changed(home=home), signature_of("w.")), home)
            self.assertEqual(tail_shift(plan.changed(home=home), plan, signature_of("wa.a")), -home)
        slots = Convention(BOOK, tail="slots")
        more = slots.changed(wholes=2)
        named = [signature_of(letters) for letters in (".", "a.", "aa.w", "aaa.")]
        self.assertEqual([tail_shift(slots, more, signature) for signature in named], [0, -8, -16, -16])
        self.assertEqual([tail_shift(more, slots, signature) for signature in named], [0, 8, 16, 16])

    def test_pieces(self):
        book = Book(Kind("d", size=16, align=8), Kind("a"))
        one, two, three = (Convention(book, wholes=number, again=True) for number in (1, 2, 3))
        split = two.changed(doubles="split")
        # Unlike numbers of pieces, and unlike registers.
        for first, second in ((one, two), (two, one), (two, split), (two, three), (two, Convention(book, tail="slots"))):
            self.assertIsNone(tail_shift(first, second, Signature(book, "...")))
        self.assertEqual(tail_shift(two, two, Signature(book, "...")), 0)
        self.assertIsNone(tail_shift(two, split, Signature(book, "a", "...", "a")))
        self.assertIsNone(tail_shift(two, three, Signature(book, "a", "a", "...", "a")))
        even = Convention(book, wholes=3, doubles="even")
        self.assertIsNone(tail_shift(even, even.changed(doubles="whole"), Signature(book, "a", "...")))
        self.assertEqual(tail_shift(even, even.changed(doubles="whole"), Signature(book, "d", "a", "...")), 0)

    def test_slots_that_lie_otherwise(self):
        fours, eights = Convention(BOOK, slot=4), Convention(BOOK)
        self.assertIsNone(tail_shift(fours, eights, signature_of(".")))
        # Slots of other lengths that begin in the same places are passed on.
        book = Book(Kind("a", size=4, align=8), Kind("b", size=2, align=16))
        fours, eights = Convention(book, slot=4), Convention(book, home=32)
        self.assertEqual(tail_shift(fours, eights, Signature(book, "...", "a")), 32)
        self.assertEqual(tail_shift(fours, eights, Signature(book, "a", "b", "...", "a")), 32)
        self.assertIsNone(tail_fault(fours, eights))
        self.assertIsNone(tail_shift(fours, eights.changed(natural=False), Signature(book, "...", "a")))

    def test_one_kind_that_lies_otherwise(self):
        """Offsets keep their distance, and one kind alone begins further behind the offset on one side."""
        book = Book(Kind("a", align=4), Kind("b", size=4, align=8))
        first, second = Convention(book), Convention(book, slot=4)
        named = Signature(book, "b", "...")
        self.assertEqual([shifts_of(first, second, named + name) for name in ("a", "b")], [{-4}, {0}])
        self.assertIsNone(tail_shift(first, second, named))
        self.assertIsNone(tail_shift(second, first, named))

    def test_faults_behind_several_letters(self):
        book = Book(Kind("a"), Kind("f", "float"))
        two, three = Convention(book, floats=2, again=True), Convention(book, floats=3, again=True)
        slots = three.changed(tail="slots")
        for letters in (("...",), ("f", "..."), ("f", "f", "..."), ("a", "f", "...", "f", "a")):
            for first, second in ((two, three), (three, two), (two, slots)):
                is_kept = second is slots and letters.count("f") == 2 and letters[-1] == "..."
                self.assertEqual(tail_shift(first, second, Signature(book, *letters)), 0 if is_kept else None)
                self.assertIsNotNone(tail_fault(first, second))
        self.assertEqual(tail_shift(two, three.changed(floats=2, home=16), Signature(book, "...")), 16)

    def test_fills(self):
        plan = Convention(BOOK, wholes=1, again=True)
        for fill, wanted, is_kept in ((None, Fill("sign", 9), False), (Fill("sign", 20), Fill("sign", 9), True),
                                      (Fill("zeros", 20), Fill("sign", 9), False), (Fill("sign", 20), Fill("sign", 21), False),
                                      (Fill("sign", 20), None, True), (Fill("zeros", 64), Fill("zeros", 128), True),
                                      (None, Fill("sign", 8), True), (Fill("sign", 8), Fill("zeros", 3), True)):
            first = plan.changed(fills=None if fill is None else {"a": fill})
            second = plan.changed(fills=None if wanted is None else {"a": wanted}, home=16)
            self.assertEqual(tail_shift(first, second, signature_of("w.")), 16 if is_kept else None)
            self.assertIs(tail_fault(first, second) is None, is_kept)

    def test_400_joint_states(self):
        for first, second in (FULL, FULL[::-1], (FULL[1], FULL[1])):
            for letters in (("...",), ("a", "..."), ("b", "c", "...", "a")):
                signature = Signature(first.book, *letters)
                self.assertEqual(tail_shift(first, second, signature), shift_by_hand(first, second, signature.named()))

    def test_greatest_lengths(self):
        signature = Signature(BOOK, *["a"] * 999, "...")
        self.assertEqual(tail_shift(Convention(BOOK, wholes=3, tail="slots"), Convention(BOOK, tail="slots"), signature), 24)
        self.assertEqual(tail_shift(Convention(BOOK), Convention(BOOK, home=16), Signature(BOOK, "...", *["w"] * 999)), 16)


class FaultTest(RaisingTest):

    def by_hand(self, first, second):
        """Whether a blind adapter passes on all tails: one named part for each joint state is enough."""
        ways = [way for way in first_ways([first, second]).values() if not way.has_mark]
        return all(shift_by_hand(first, second, way + "...") is not None for way in ways)

    def is_fault(self, first, second, one, other):
        shifts = [shifts_of(first, second, each) for each in (one, other)]
        return one.named() == other.named() and (None in shifts or len(shifts[0] | shifts[1]) > 1)

    def test_all_pairs(self):
        found = {True: 0, False: 0}
        for first, second in list(pairs()) + list(product(PLANS, PLANS)) + list(product(WIDE_PLANS, WIDE_PLANS)):
            told = tail_fault(first, second)
            found[told is None] += 1
            self.assertIs(told is None, self.by_hand(first, second))
            if told is not None:
                self.assertEqual([type(part) for part in (told, *told)], [tuple, Signature, Signature])
                self.assertTrue(self.is_fault(first, second, *told), told)
                self.assertIs(is_tail_fault(first, second, told), True)
                self.assertIs(is_tail_fault(first, second, told[::-1]), True)
        self.assertGreater(min(found.values()), 30)

    def test_all_pairs_of_signatures(self):
        found = {True: 0, False: 0}
        for first, second in ((Convention(BOOK, slot=4), Convention(BOOK)), (PLANS[1], PLANS[4]), (PLANS[6], PLANS[7]),
                              (Convention(BOOK, slot=4, natural=False), Convention(BOOK, slot=4)), (PLANS[0], PLANS[3])):
            short = [signature for signature in signatures(BOOK, 3) if signature.has_mark] + [signature_of("aw")]
            for one, other in product(short, short):
                wanted = one.has_mark and other.has_mark and self.is_fault(first, second, one, other)
                self.assertIs(is_tail_fault(first, second, (one, other)), wanted, (one, other))
                found[wanted] += 1
        self.assertGreater(min(found.values()), 20)

    def test_unlike_tails(self):
        """Each of the two tails has a right shift of its own, but not the same one."""
        first, second = Convention(BOOK, slot=4, natural=False), Convention(BOOK, slot=4)
        one, other = signature_of("a.w"), signature_of("a.a")
        self.assertEqual([shifts_of(first, second, each) for each in (one, other)], [{4}, {0}])
        self.assertIs(is_tail_fault(first, second, (one, other)), True)
        self.assertIs(is_tail_fault(first, second, (one, one)), False)
        self.assertIs(is_tail_fault(first, second, (one, signature_of("w.a"))), False)
        self.assertTrue(self.is_fault(first, second, *tail_fault(first, second)))

    def test_other_values(self):
        first, second = Convention(BOOK, slot=4), Convention(BOOK)
        right = (signature_of(".aa"), signature_of(".aa"))
        self.assertIs(is_tail_fault(value=right, second=second, first=first), True)
        same = Book(Kind("a", size=1), Kind("w"))
        self.assertIs(is_tail_fault(first, second, (signature_of(".aa"), signature_of(".aa", same))), True)
        alien = signature_of(".aa", ALIEN)
        for value in (*NO_COUNTS, 0, list(right), right[:1], right + right[:1], right[0], (right[0], None), (None, right[0]),
                      (".aa", ".aa"), (right[0].letters(), right[0].letters()), (alien, alien), (right[0], alien), (alien, right[0]),
                      (signature_of("aa"), signature_of("aa")), (right[0], signature_of("aa")), (signature_of(""), signature_of("")),
                      (signature_of("."), signature_of(".")), (signature_of(".a"), signature_of(".")), (right, right)):
            self.assertIs(is_tail_fault(first, second, value), False, value)

    def test_asked_again(self):
        first, second = PLANS[1], PLANS[2]
        self.assertEqual(tail_fault(first, second), tail_fault(first, second))
        self.assertEqual(tail_fault(first, second), tail_fault(first.changed(), second.changed()))


class WrongInputTest(RaisingTest):

    def test_conventions(self):
        for function, more in ((tail_fault, {}), (tail_shift, {"signature": 5}), (is_tail_fault, {"value": 5})):
            for value in (*NO_COUNTS, 0, BOOK, "plan"):
                self.check_raises(InvalidConvention, {"value": value}, function, value, 7, *more.values())
                self.check_raises(InvalidConvention, {"value": value}, function, PLANS[0], value, *more.values())
                self.check_raises(InvalidConvention, {"value": value}, function, second=7, first=value, **more)

    def test_signatures(self):
        for value in (*NO_STRINGS, "...", BOOK, signature_of("a"), signature_of(""), signature_of("aw", ALIEN)):
            for second in (PLANS[1], Convention(ALIEN)):
                self.check_raises(InvalidSignature, {"value": value}, tail_shift, PLANS[0], second, value)
        for first, second in (OVER, MANY):
            bare = Signature(first.book, "a")
            self.check_raises(InvalidSignature, {"value": bare}, tail_shift, first, second, bare)

    def test_other_books(self):
        attributes = {"one": BOOK, "other": ALIEN}
        for function, more in ((tail_fault, ()), (tail_shift, (signature_of("."),)), (is_tail_fault, (None,))):
            self.check_raises(OtherBook, attributes, function, PLANS[0], Convention(ALIEN), *more)
        self.check_raises(OtherBook, attributes, tail_shift, PLANS[0], PLANS[1], signature_of(".", ALIEN))
        self.check_raises(OtherBook, {"one": BOOK, "other": WIDE}, tail_shift, PLANS[0], WIDE_PLANS[0], signature_of(".", ALIEN))
        alien = Signature(ALIEN, "...")
        self.check_raises(OtherBook, {"one": OVER[0].book, "other": ALIEN}, tail_shift, *OVER, alien)

    def test_too_many_joint_states(self):
        for first, second in (OVER, MANY, OVER[::-1]):
            signature = Signature(first.book, "a", "...")
            self.check_raises(TooMany, LIMIT, tail_fault, first, second)
            self.check_raises(TooMany, LIMIT, tail_shift, first, second, signature)
            for value in (None, (signature, signature)):
                self.check_raises(TooMany, LIMIT, is_tail_fault, first, second, value)
        for plan in (*OVER, *MANY, *SORT_PLANS):
            self.assertIsNone(tail_fault(plan, plan))
            self.assertEqual(tail_shift(plan, plan, Signature(plan.book, plan.book.names()[0], "...")), 0)
        self.assertEqual(SORT_PLANS[0].book, SORTS)
