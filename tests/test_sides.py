"""Two conventions side by side [51], [52], [53]."""

from itertools import product

from tests.helpers import (
    ALIEN, BOOK, FULL, MANY, NO_COUNTS, NO_STRINGS, OVER, PLANS, WIDE, WIDE_PLANS, RaisingTest, argument_bits,
    fill_bits, first_ways, last_of, put_argument_bits,
)
from unlikecalls.calls import call, keeps
from unlikecalls.conventions import Convention
from unlikecalls.errors import InvalidConvention, OtherBook, TooMany, UnknownKind
from unlikecalls.fills import Fill
from unlikecalls.frames import Frame
from unlikecalls.kinds import Book, Kind
from unlikecalls.sides import (
    are_alike, copies_do, first_lost, first_unlike, joint_states, least_fill, lost_through,
)
from unlikecalls.signatures import Signature, signatures

LIMIT = {"what": "joint states", "limit": 400}
PAIRS = list(product(PLANS, PLANS)) + list(product(WIDE_PLANS, WIDE_PLANS))


def candidates(plans):
    """For all that depends on states alone: a signature for each way to go on with an argument, in order."""
    key = tuple(first_ways(plans).values())
    return sorted([way + name for way in key for name in way.book.names()])


class JointStatesTest(RaisingTest):

    def test_all_pairs(self):
        for first, second in PAIRS:
            found = joint_states(first, second)
            self.assertEqual(found, sorted(first_ways([first, second])))
            self.assertEqual(sorted([(two, one) for one, two in found]), joint_states(second=first, first=second))

    def test_beside_itself(self):
        for plan in PLANS + WIDE_PLANS:
            self.assertTrue(all(one == other for one, other in joint_states(plan, plan)))
        self.assertEqual(len(joint_states(PLANS[0], PLANS[0])), 6)

    def test_lists_are_new(self):
        found = joint_states(PLANS[0], PLANS[1])
        before = list(found)
        self.assertEqual([type(found), type(found[0]), type(found[0][0])], [list, tuple, tuple])
        found.clear()
        self.assertEqual(joint_states(PLANS[0], PLANS[1]), before)

    def test_asked_again(self):
        """Answers do not depend on what was asked before, nor on whether objects were made apart."""
        pairs = [(first, second) for first in PLANS[:3] for second in PLANS[1:5]] * 2
        for first, second in pairs + pairs[::-1]:
            apart = first.changed(), second.changed()
            for function in (joint_states, first_unlike, first_lost):
                self.assertEqual(function(first, second), function(*apart))
        for _ in range(2):
            self.check_raises(TooMany, LIMIT, joint_states, *OVER)
            self.assertEqual(len(joint_states(*FULL)), 400)

    def test_example(self):
        first, second = Convention(BOOK, wholes=1), Convention(BOOK, slot=4)
        found = [len(joint_states(first, second)), first_unlike(first, second),
                 first_unlike(second, second.changed(natural=False))]
        self.assertEqual(found, [22, Signature(BOOK, "a"), Signature(BOOK, "a", "w")])


class LimitTest(RaisingTest):

    def test_numbers_of_joint_states(self):
        self.assertEqual(len(joint_states(*FULL)), 400)
        for first, second in (OVER, MANY):
            for one, other in ((first, second), (second, first)):
                self.check_raises(TooMany, LIMIT, joint_states, one, other)
                self.check_raises(TooMany, LIMIT, least_fill, one, other, "a")
                self.check_raises(TooMany, LIMIT, lost_through, one, one, other)
        for function in (first_unlike, are_alike, first_lost, copies_do):
            self.check_raises(TooMany, LIMIT, function, *OVER)
        self.check_raises(TooMany, LIMIT, lost_through, OVER[0], OVER[1], OVER[0])
        self.check_raises(TooMany, LIMIT, lost_through, OVER[1], OVER[0], OVER[0])

    def test_one_of_many_beside_itself(self):
        for plan in (*OVER, *MANY, *FULL):
            self.assertEqual(joint_states(plan, plan), sorted(first_ways([plan, plan])))
            self.assertTrue(are_alike(plan, plan))
            self.assertTrue(copies_do(plan, plan))
            self.assertEqual(least_fill(plan, plan, "a"), Fill())
            self.assertIsNone(lost_through(plan, plan, plan))

    def test_answers_for_400(self):
        first, second = FULL
        self.assertEqual(first_unlike(first, second), Signature(first.book, "b"))
        self.assertIsNone(first_lost(first, second))
        self.assertIsNone(lost_through(first, second, first))


class UnlikeTest(RaisingTest):

    def test_all_pairs(self):
        for first, second in PAIRS:
            found = first_unlike(first, second)
            self.assertIs(are_alike(first, second), found is None)
            most = 3 if found is None else len(found)
            self.assertLess(most, 5)
            first_one = None
            for signature in signatures(first.book, most):
                if len(signature) > 0 and signature[len(signature) - 1] != "...":
                    if last_of(first, signature) != last_of(second, signature):
                        first_one = signature
                        break
            self.assertEqual(found, first_one)

    def test_conventions_that_differ_in_one_option(self):
        plan = Convention(WIDE, wholes=2, floats=2)
        rows = (({}, None), ({"wholes": 3}, "ad"), ({"floats": 1}, "ff"), ({"together": True}, "af"),
                ({"doubles": "even"}, None), ({"doubles": "split"}, "ad"), ({"again": True}, "ada"), ({"slot": 4}, "da"),
                ({"home": 16}, "ad"), ({"tail": "slots"}, ".a"), ({"natural": False}, "adff.f"),
                ({"fills": {"a": Fill("sign", 9)}}, "a"), ({"fills": {"a": Fill("sign", 7)}}, None),
                ({"fills": {"d": Fill("zeros", 100)}}, None), ({"fills": {"f": Fill("sign", 65)}}, "f"))
        for options, letters in rows:
            other = plan.changed(**options)
            found = first_unlike(plan, other)
            self.assertEqual(found, first_unlike(other, plan))
            if letters is None:
                self.assertIsNone(found, options)
            elif "natural" not in options:
                self.assertEqual(found, Signature(WIDE, *["..." if each == "." else each for each in letters]), options)
            else:
                self.assertIsNotNone(found)

    def test_fills_that_are_cut(self):
        plan = Convention(BOOK, slot=4, fills={"a": Fill("sign", 32)})
        self.assertTrue(are_alike(plan, plan.changed(fills={"a": Fill("sign", 100)})))
        self.assertFalse(are_alike(plan, plan.changed(fills={"a": Fill("zeros", 32)})))
        wholes = plan.changed(wholes=1)
        other = wholes.changed(fills={"a": Fill("sign", 33)})
        self.assertEqual(first_unlike(wholes, other), Signature(BOOK, "a"))

    def test_long_signatures(self):
        book = Book(Kind("a", size=4, align=4), Kind("f", "float", size=8, align=16))
        first = Convention(book, wholes=3, floats=3, slot=4)
        second = first.changed(natural=False)
        self.assertEqual(repr(first_unlike(first, second)), "Signature(f, f, f, f, f)")


class LostTest(RaisingTest):

    def test_all_pairs(self):
        for first, second in PAIRS:
            wanted = None
            for signature in candidates([first, second]):
                lost = [bit for bit in fill_bits(second, signature) if bit not in fill_bits(first, signature)]
                if lost:
                    wanted = (signature, min(lost)[0])
                    break
            self.assertEqual(first_lost(first, second), wanted)
            self.assertIs(copies_do(first, second), wanted is None)

    def test_example(self):
        first = Convention(BOOK, wholes=1)
        signed = Convention(BOOK, slot=4, fills={"a": Fill("sign", 32)})
        found = [first_lost(first, signed), least_fill(first, signed, "a"),
                 copies_do(first.changed(fills={"a": Fill("sign", 64)}), signed)]
        self.assertEqual(found, [(Signature(BOOK, "a"), 8), Fill("sign", 32), True])

    def test_bits(self):
        plan = Convention(BOOK, wholes=1)
        rows = ((Fill("sign", 20), Fill("sign", 30), 20), (Fill("sign", 30), Fill("sign", 20), None),
                (Fill("zeros", 30), Fill("sign", 20), 8), (Fill(), Fill("zeros", 9), 8), (Fill("sign", 64), Fill(), None),
                (Fill("sign", 8), Fill("sign", 10), 8), (Fill("sign", 64), Fill("sign", 128), None))
        for fill, wanted, bit in rows:
            found = first_lost(plan.changed(fills={"a": fill}), plan.changed(fills={"a": wanted}))
            self.assertEqual(found, None if bit is None else (Signature(BOOK, "a"), bit))

    def test_copies(self):
        pairs = [(first, second) for first, second in PAIRS if copies_do(first, second)]
        self.assertGreater(len(pairs), 40)
        for first, second in pairs[::2]:
            for signature in signatures(first.book, 2):
                values = [2 ** (first.book.kind(name).width - 1) + 1 for name in signature.arguments()]
                rows = argument_bits(first, signature, call(first, signature, values, [90, 165]))
                frame = Frame([201] * (second >> signature).end)
                put_argument_bits(second, signature, frame, rows)
                self.assertTrue(keeps(second, signature, frame, values))


class LeastFillTest(RaisingTest):

    def is_enough(self, first, second, name):
        """Whether plain copies of arguments of this kind are enough."""
        ways = [way + name for way in first_ways([first, second]).values()]
        return all(set(fill_bits(second, way)) <= set(fill_bits(first, way)) for way in ways)

    def test_all_pairs(self):
        for first, second in PAIRS:
            others = {name: first.fill(name) for name in first.book.names()}
            for name in first.book.names():
                least = least_fill(first, second, name)
                if least is None:
                    tried = [Fill(word, 128) for word in ("sign", "zeros")]
                    self.assertFalse(any(self.is_enough(first.changed(fills={**others, name: fill}), second, name)
                                         for fill in tried))
                    continue
                self.assertTrue(self.is_enough(first.changed(fills={**others, name: least}), second, name))
                if least.word != "free":
                    less = Fill(least.word, least.extent - 1) if least.extent > 3 else Fill()
                    self.assertFalse(self.is_enough(first.changed(fills={**others, name: less}), second, name))
                    self.assertFalse(self.is_enough(first.changed(fills={**others, name: Fill()}), second, name))

    def test_its_own_fill_does_not_matter(self):
        second = Convention(BOOK, wholes=1, fills={"a": Fill("sign", 50)})
        for fill in (Fill(), Fill("zeros", 70), Fill("sign", 128)):
            first = Convention(BOOK, wholes=1, fills={"a": fill})
            self.assertEqual(least_fill(first, second, "a"), Fill("sign", 50))
            self.assertEqual(least_fill(name="w", second=second, first=first), Fill())
            self.assertIsNone(least_fill(first.changed(wholes=0, slot=4), second, "a"))
        self.assertEqual(least_fill(Convention(BOOK, slot=4), second.changed(wholes=0, slot=4), "a"), Fill("sign", 32))

    def test_unknown_kinds(self):
        for name in (*NO_STRINGS, "", "b", "...", "A"):
            self.check_raises(UnknownKind, {"value": name}, least_fill, PLANS[0], PLANS[1], name)
        self.check_raises(UnknownKind, {"value": "z"}, least_fill, PLANS[0], Convention(ALIEN), "z")
        self.check_raises(UnknownKind, {"value": "z"}, least_fill, *MANY, "z")
        self.check_raises(InvalidConvention, {"value": 5}, least_fill, PLANS[0], 5, "z")


class LostThroughTest(RaisingTest):

    def test_all_triples(self):
        triples = list(product(PLANS[:1] + PLANS[6:], repeat=3)) + list(product(WIDE_PLANS[1:3], repeat=3))
        found = {True: 0, False: 0}
        for first, middle, second in triples:
            try:
                told = lost_through(first, middle, second)
            except TooMany:
                self.assertGreater(len(first_ways([first, middle, second])), 400)
                continue
            wanted = None
            for signature in candidates([first, middle, second]):
                wants = fill_bits(second, signature)
                if [bit for bit in wants if bit not in fill_bits(first, signature)] or [
                        bit for bit in wants if bit not in fill_bits(middle, signature)]:
                    wanted = signature
                    break
            self.assertEqual(told, wanted)
            found[told is None] += 1
        self.assertGreater(min(found.values()), 10)

    def test_through_the_first_and_the_last(self):
        for first, second in product(PLANS, PLANS):
            lost = first_lost(first, second)
            wanted = None if lost is None else lost[0]
            self.assertEqual(lost_through(first, first, second), wanted)
            self.assertEqual(lost_through(second=second, middle=second, first=first), wanted)

    def test_wrong_conventions(self):
        plans = [PLANS[0], PLANS[1], PLANS[2]]
        for position, value in product(range(3), (*NO_COUNTS, 0, BOOK)):
            given = plans[:position] + [value] + plans[position + 1:]
            self.check_raises(InvalidConvention, {"value": value}, lost_through, *given)
            self.check_raises(InvalidConvention, {"value": value}, lost_through, *(given[:position + 1] + ["x"] * 2)[:3])
        alien = Convention(ALIEN)
        for given in ((PLANS[0], alien, PLANS[1]), (PLANS[0], PLANS[1], alien), (PLANS[0], alien, Convention(WIDE))):
            self.check_raises(OtherBook, {"one": BOOK, "other": ALIEN}, lost_through, *given)
        self.check_raises(OtherBook, {"one": ALIEN, "other": BOOK}, lost_through, alien, PLANS[0], PLANS[1])


class WrongInputTest(RaisingTest):

    def test_wrong_conventions(self):
        for function in (joint_states, first_unlike, are_alike, first_lost, copies_do, least_fill):
            more = ("z",) if function is least_fill else ()
            for value in (*NO_COUNTS, 0, BOOK, "plan"):
                self.check_raises(InvalidConvention, {"value": value}, function, value, PLANS[0], *more)
                self.check_raises(InvalidConvention, {"value": value}, function, PLANS[0], value, *more)
                self.check_raises(InvalidConvention, {"value": value}, function, value, 77, *more)

    def test_other_books(self):
        for function in (joint_states, first_unlike, are_alike, first_lost, copies_do, least_fill):
            more = ("a",) if function is least_fill else ()
            attributes = {"one": BOOK, "other": ALIEN}
            self.check_raises(OtherBook, attributes, function, PLANS[0], Convention(ALIEN), *more)
            same = Convention(Book(Kind("a", size=1), Kind("w")))
            self.assertEqual(function(PLANS[0], same, *more), function(PLANS[0], PLANS[0], *more))
