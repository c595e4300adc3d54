"""Claims and their papers [93]."""

from itertools import product

from tests.helpers import (
    ALIEN, BOOK, FULL, MANY, NO_COUNTS, NO_STRINGS, OVER, PLANS, SORT_PLANS, SORTS, WIDE, WIDE_PLANS, Dice, RaisingTest,
    last_of, signature_of,
)
from tests.test_joining import told_ring, wide_ring
from tests.test_judging import some_adapters
from tests.test_leads import greatest_by_hand, is_bounds_by_hand, random_pairs
from unlikecalls.adapters import Adapter
from unlikecalls.conventions import Convention
from unlikecalls.errors import InvalidClaim, TooMany
from unlikecalls.fills import Fill, Work
from unlikecalls.judge import KINDS, is_claim, is_paper, paper_of
from unlikecalls.judging import first_wrong, is_right, table
from unlikecalls.kinds import Book, Kind
from unlikecalls.leads import heights, is_rising, lead, rising_ring
from unlikecalls.places import Next, Register, Slots
from unlikecalls.sides import are_alike, first_unlike, joint_states
from unlikecalls.signatures import Signature, signatures
from unlikecalls.steps import Step

COPY = Step([Next(8, 8)], Work(), [Next(8, 8)])
SLOTS = Convention(BOOK)
RIGHT = Adapter(SLOTS, SLOTS, [{"a": COPY, "w": COPY}], [0])
WRONG = Adapter(SLOTS, SLOTS, [{"a": COPY, "w": Step([Next(8, 4)], Work(), [Next(8, 8)])}], [0])
PAIRS = list(zip(PLANS, PLANS[1:])) + list(zip(PLANS[::-1], PLANS[-2::-1])) + [(plan, plan) for plan in PLANS]
ENTRIES = {"what": "entries", "limit": 1000}
STATES = {"what": "joint states", "limit": 400}


def same_layouts():
    """Conventions that are alike, and are not equal."""
    plan = Convention(BOOK, wholes=2, fills={"a": Fill("sign", 64)})
    yield plan, plan.changed(fills={"a": Fill("sign", 100)})
    yield plan, plan.changed(floats=3, doubles="even")
    yield plan, plan.changed(natural=False)
    yield plan.changed(wholes=0), plan.changed(wholes=0, tail="slots", again=True)
    for plan in SORT_PLANS[::3]:
        yield plan, plan.changed()


def claims_of(first, second):
    """All kinds of claims of two conventions, with whether they are true."""
    tops = greatest_by_hand(first, second)
    top = None if tops is None else max(0, *tops.values())
    alike = are_alike(first, second)
    yield ("alike", first, second), alike
    yield ("unlike", first, second), not alike
    for room in {0, 1, 10 ** 30} | (set() if top is None else {top, top + 1, max(0, top - 1)}):
        yield ("room", first, second, room), top is not None and room >= top
        yield ("narrow", first, second, room), top is None or room < top
    yield ("rising", first, second), top is None


def is_alike_by_hand(first, second, value):
    """Whether a list of tuples with three parts shows that two conventions are alike, by the words of [93]."""
    if (first.start(), second.start(), second.home - first.home) not in value:
        return False
    for state, other_state, more in value:
        for letter in first.book.names() + ([] if state[4] else ["..."]):
            (pieces, behind, growth), (others, other_behind, other_growth) = first.step(state, letter), second.step(other_state, letter)
            here = [piece + 1000 if isinstance(piece, Slots) else piece for piece in pieces]
            there = [piece + (1000 + more) if isinstance(piece, Slots) else piece for piece in others]
            if here != there or (behind, other_behind, more + other_growth - growth) not in value:
                return False
            if letter != "...":
                kind = first.book.kind(letter)
                cuts = [plan.fill(letter).cut(kind.width, sum(piece.bits for piece in row))
                        for plan, row in ((first, pieces), (second, others))]
                if cuts[0] != cuts[1]:
                    return False
    return True


class ClaimTest(RaisingTest):

    def test_kinds(self):
        self.assertEqual(KINDS, ("right", "wrong", "alike", "unlike", "room", "narrow", "rising"))
        self.assertIs(type(KINDS), tuple)

    def test_claims(self):
        same = Convention(Book(Kind("a", size=1), Kind("w")), wholes=3)
        for first, second in ((PLANS[0], PLANS[1]), (SLOTS, SLOTS), (WIDE_PLANS[0], WIDE_PLANS[1]), (SLOTS, same), OVER):
            for claim, _ in claims_of(first, second) if first is not OVER[0] else [(("room", *OVER, 7), None)]:
                self.assertIs(is_claim(claim), True)
        for adapter in (RIGHT, WRONG):
            self.assertIs(is_claim(("right", adapter)), True)
            self.assertIs(is_claim(value=("wrong", adapter)), True)

    def test_no_claims(self):
        first, second, alien = PLANS[0], PLANS[1], Convention(ALIEN)
        none = [*NO_STRINGS, "", "right", RIGHT, PLANS[0], ("right",), ("alike",), ("alike", first), ("room", first, second),
                ("narrow", first, second), ("rising", first), ("rising", first, second, 0), ("alike", first, second, 0),
                ("unlike", first, second, second), ("room", first, second, 0, 0), ("right", RIGHT, RIGHT), ("wrong", RIGHT, None),
                ("right", first), ("wrong", first, second), ("alike", RIGHT, RIGHT), ("alike", RIGHT), ("rising", first, RIGHT),
                ("even", first, second), ("Right", RIGHT), (b"right", RIGHT), (None, RIGHT), (0, RIGHT), (True, RIGHT), ((), RIGHT),
                ("alike", first, alien), ("room", alien, second, 3), ("narrow", alien, second, 3), ("rising", first, alien),
                ("unlike", first, WIDE_PLANS[0]), ["right", RIGHT], ["alike", first, second], (["right"], RIGHT), ("right", [RIGHT]),
                ("alike", (first, second)), {"right": RIGHT}, (("right", RIGHT),), ("room", first, 3, second), (RIGHT, "right"),
                (0, "right", RIGHT), ("", RIGHT), ("righ", RIGHT), ("rightwrong", RIGHT)]
        none += [("room", first, second, value) for value in NO_COUNTS] + [("narrow", first, second, value) for value in NO_COUNTS]
        none += [(word, value, second) for word in ("alike", "unlike", "rising") for value in (*NO_COUNTS, BOOK, "plan")]
        none += [(word, first, value, 4) for word in ("room", "narrow") for value in (*NO_COUNTS, BOOK)]
        none += [(word, value) for word in ("right", "wrong") for value in (*NO_COUNTS, 1, "m")]
        for value in none:
            self.assertIs(is_claim(value), False, value)
            self.check_raises(InvalidClaim, {"value": value}, paper_of, value)
            self.check_raises(InvalidClaim, {"value": value}, is_paper, value, [])
            self.check_raises(InvalidClaim, {"value": value}, is_paper, value=None, claim=value)


class AdapterPaperTest(RaisingTest):

    def test_right_and_wrong(self):
        found = {True: 0, False: 0}
        for adapter in [RIGHT, WRONG, told_ring(3, Work()), *some_adapters(25), Adapter.made(PLANS[1], PLANS[2])]:
            wrong = first_wrong(adapter)
            found[wrong is None] += 1
            papers = paper_of(("right", adapter)), paper_of(("wrong", adapter))
            self.assertEqual(papers, (table(adapter), "none") if wrong is None else ("none", wrong))
            self.assertEqual([is_paper((word, adapter), paper) for word, paper in zip(("right", "wrong"), papers)],
                             [wrong is None, wrong is not None])
            self.assertEqual([is_paper((word, adapter), paper) for word, paper in zip(("wrong", "right"), papers)], [False, False])
            for signature in signatures(adapter.book, 2):
                self.assertIs(is_paper(("wrong", adapter), signature), not is_right(adapter, signature))
                self.assertIs(is_paper(("right", adapter), signature), False)
        self.assertGreater(min(found.values()), 5)

    def test_changed_tables(self):
        claim = ("right", RIGHT)
        right = paper_of(claim)
        self.assertEqual([is_paper(claim, right), is_paper(claim, tuple(right)), is_paper(claim, list(right))], [True] * 3)
        for at, one in enumerate(right):
            others = [one[:3], one + (0,), list(one), None, 7, (*one[:3], 1), (*one[:3], -1), (*one[:2], 1, 0), (*one[:3], False), right[at - 1],
                      ((*one[0][:5], 4), *one[1:]), ((True, *one[0][1:]), *one[1:]), (one[1], *one[1:3], "0")]
            for other in others:
                self.assertIs(is_paper(claim, right[:at] + [other] + right[at + 1:]), False)
            self.assertIs(is_paper(claim, right[:at] + right[at + 1:]), False)
        for value in (*NO_COUNTS, "none", right[::-1], right + right[:1], {one: 1 for one in right}, RIGHT, signature_of("a"), (right,)):
            self.assertIs(is_paper(claim, value), False)

    def test_other_signatures(self):
        claim = ("wrong", WRONG)
        for letters, wanted in (("w", True), ("aw", True), ("w.a", True), ("a", False), ("", False), (".", False), ("a.aa", False)):
            self.assertIs(is_paper(claim, signature_of(letters)), wanted)
        self.assertIs(is_paper(claim, Signature(Book(Kind("a", size=1), Kind("w")), "w")), True)
        for value in (*NO_STRINGS, "w", ["w"], ("w",), signature_of("w", ALIEN), WRONG, [signature_of("w")], "none"):
            self.assertIs(is_paper(claim, value), False)
        self.assertEqual(paper_of(claim=claim), signature_of("w"))

    def test_too_many_entries(self):
        adapter = wide_ring(249)
        for word in ("right", "wrong"):
            self.check_raises(TooMany, ENTRIES, paper_of, (word, adapter))
            for value in (None, [], Signature(adapter.book, "a")):
                self.check_raises(TooMany, ENTRIES, is_paper, (word, adapter), value)
        # More joint states than are allowed elsewhere do not matter here.
        plain = {name: Step([Next(1, 1)], Work(), [Next(1, 1)]) for name in OVER[0].book.names()}
        wrong = Adapter(*OVER, [plain], [0])
        self.assertEqual(paper_of(("wrong", wrong)), Signature(OVER[0].book, "a"))
        self.assertIs(is_paper(("wrong", wrong), Signature(OVER[0].book, "a")), True)
        self.assertEqual(paper_of(("right", wrong)), "none")


class ConventionPaperTest(RaisingTest):

    def check_claim(self, claim, is_true):
        paper = paper_of(claim)
        if not is_true:
            self.assertEqual(paper, "none", claim)
            return
        self.assertNotEqual(paper, "none", claim)
        self.assertIs(is_paper(claim, paper), True, claim)

    def test_true_and_false_ones(self):
        count = {word: {True: 0, False: 0} for word in KINDS[2:]}
        for first, second in PAIRS + list(same_layouts()) + list(random_pairs(40, 6)) + list(zip(SORT_PLANS, SORT_PLANS[1:])):
            for claim, is_true in claims_of(first, second):
                self.check_claim(claim, is_true)
                count[claim[0]][is_true] += 1
        for word, found in count.items():
            self.assertGreater(min(found.values()), 5, word)

    def test_papers_for_other_claims(self):
        """What is a paper for one claim is one for another claim only if it shows it."""
        for first, second in PAIRS[::2] + list(same_layouts()) + list(random_pairs(12, 66)):
            claims = list(claims_of(first, second))
            papers = [paper_of(claim) for claim, _ in claims] + ["none", None, [], {}, (), 0, Signature(first.book)]
            for (claim, is_true), paper in product(claims, papers):
                found = is_paper(claim, paper)
                self.assertIs(found, self.by_hand(claim, paper))
                self.assertTrue(is_true or not found)

    def by_hand(self, claim, paper):
        word, first, second, *room = claim
        is_signature = isinstance(paper, Signature) and paper.book == first.book
        if word == "alike":
            return isinstance(paper, list) and len(paper) > 0 and is_alike_by_hand(first, second, paper)
        if word == "unlike":
            return is_signature and len(paper.arguments()) > 0 and self.last(first, paper) != self.last(second, paper)
        if word == "room":
            is_dict = isinstance(paper, dict) and len(paper) > 0
            return is_dict and is_bounds_by_hand(first, second, paper, 1) and max(paper.values()) <= room[0]
        if word == "narrow" and is_signature:
            return lead(first, second, paper) > room[0]
        return isinstance(paper, tuple) and is_rising(first, second, paper)

    def last(self, plan, signature):
        layout = plan >> signature
        return layout.pieces(len(layout) - 1), layout.fill(len(layout) - 1)

    def test_alike_papers(self):
        dice = Dice(30)
        for first, second in same_layouts():
            claim = ("alike", first, second)
            right = paper_of(claim)
            self.assertEqual(sorted(right), [(*states, 0) for states in joint_states(first, second)])
            self.assertEqual([type(part) for part in (right, *right)], [list] + [tuple] * len(right))
            for value in (right[::-1], tuple(right), right + right[:2], sorted(right, key=repr)):
                self.assertIs(is_paper(claim, value), True)
            for _ in range(6):
                at = dice.roll(len(right))
                one = right[at]
                self.assertIs(is_paper(claim, right[:at] + right[at + 1:]), False)
                for other in (one[:2], one + (0,), list(one), (one[0], one[1], 8), (one[0], one[1], -4), (one[0], one[1], False),
                              (one[0], one[1], None), (one[0][:5], one[1], 0), (one[0], list(one[1]), 0), (one[0], None, 0), None, 5, "abc"):
                    self.assertIs(is_paper(claim, right[:at] + [other] + right[at + 1:]), False)
                    self.assertIs(is_paper(claim, right + [other]), self.stays_right(claim, right, other))

    def stays_right(self, claim, right, other):
        """Whether one more tuple does not matter: one with another difference is followed, too."""
        return other in right and not isinstance(other, list) and not any(part is False for part in other)

    def test_states_that_no_step_takes(self):
        claim = ("alike", SLOTS, SLOTS)
        right = paper_of(claim)
        state = SLOTS.start()
        for other in ((4, 0, 0, 0, 0, 0), (0, 4, 0, 0, 0, 0), (0, 0, 2, 0, 0, 0), (0, 0, 0, 2, 0, 0), (0, 0, 0, 0, 2, 0), (0, 0, 0, 0, 0, 16),
                      (-1, 0, 0, 0, 0, 0), (0, 0, 0, 0, 0), (0,) * 7, (False, 0, 0, 0, 0, 0), (0, 0, 0, 0, True, 0), [0] * 6, None, "000000",
                      ("0",) * 6, ((0,),) * 6, 0, (None,) * 6, state + state):
            for one in ((other, state, 0), (state, other, 0), (other, other, 0)):
                self.assertIs(is_paper(claim, right + [one]), False)
                self.assertIs(is_paper(claim, [one]), False)

    def test_alike_with_another_home(self):
        for wholes in (0, 1, 3):
            first, second = Convention(BOOK, wholes=wholes), Convention(BOOK, wholes=wholes, home=16)
            self.assertEqual(paper_of(("alike", first, second)), "none")
            for more in (16, 0, -16):
                shifted = [(one, other, more) for one, other in joint_states(first, second)]
                self.assertIs(is_paper(("alike", first, second), shifted), False)
                self.assertIs(is_paper(("alike", first, first), shifted), more == 0)
        self.assertIs(is_paper(("alike", first, second), paper_of(("alike", first, first))), False)

    def test_unlike_papers(self):
        for first, second in PAIRS:
            claim = ("unlike", first, second)
            self.assertEqual(paper_of(claim), "none" if are_alike(first, second) else first_unlike(first, second))
            for signature in list(signatures(BOOK, 3))[::3]:
                wanted = len(signature.arguments()) > 0 and self.last(first, signature) != self.last(second, signature)
                self.assertIs(is_paper(claim, signature), wanted)
                if wanted and not signature.tail_names() and not signature.has_mark:
                    self.assertNotEqual(last_of(first, signature), last_of(second, signature))
        claim = ("unlike", Convention(BOOK), Convention(BOOK, home=16))
        for value in (*NO_STRINGS, "a", ["a"], signature_of("a", ALIEN), signature_of(""), signature_of("."), (signature_of("a"),)):
            self.assertIs(is_paper(claim, value), False)
        self.assertIs(is_paper(claim, signature_of("a.")), True)

    def test_room_papers(self):
        first, second = Convention(BOOK, wholes=1), Convention(BOOK, slot=4)
        right = heights(first, second)
        self.assertEqual(max(right.values()), 8)
        for room, wanted in ((7, False), (8, True), (9, True), (0, False), (10 ** 40, True)):
            self.assertIs(is_paper(("room", first, second, room), right), wanted)
            self.assertEqual(paper_of(("room", first, second, room)), right if wanted else "none")
        higher = {state: right[state] + 3 for state in right}
        self.assertEqual([is_paper(("room", first, second, room), higher) for room in (10, 11)], [False, True])
        claim = ("room", first, second, 20)
        for at, state in enumerate(right):
            self.assertIs(is_paper(claim, {**right, state: 21}), False)
            self.assertIs(is_paper(claim, {**right, state: True}), False)
            self.assertIs(is_paper(claim, {each: right[each] for each in right if each != state}), False)
            self.assertIs(is_paper(claim, {**right, (state[0], at): 0}), False)
        for value in (*NO_COUNTS, 0, list(right.items()), rising_ring(second, Convention(BOOK)), signature_of("w")):
            self.assertIs(is_paper(claim, value), False)
        below = Convention(BOOK, home=16), Convention(BOOK)
        self.assertIs(is_paper(("room", *below, 0), paper_of(("room", *below, 0))), True)
        self.assertEqual(max(paper_of(("room", *below, 0)).values()), -16)

    def test_narrow_papers(self):
        first, second = Convention(BOOK, wholes=1), Convention(BOOK, slot=4)
        for room, letters, wanted in ((7, "w", True), (8, "w", False), (3, "a", True), (4, "a", False), (0, "aa", False), (0, "", False)):
            self.assertIs(is_paper(("narrow", first, second, room), signature_of(letters)), wanted)
        self.assertEqual(paper_of(("narrow", first, second, 7)), signature_of("w"))
        self.assertEqual(paper_of(("narrow", first, second, 8)), "none")
        rising = Convention(BOOK, slot=4), Convention(BOOK)
        claim = ("narrow", *rising, 1000)
        for value, wanted in ((rising_ring(*rising), True), (Signature(BOOK, *["a"] * 251), True), (Signature(BOOK, *["a"] * 250), False),
                              (list(rising_ring(*rising)), False), (rising_ring(*rising)[::-1], False), (Signature(ALIEN, *["a"] * 251), False),
                              (None, False), ((), False), ("none", False), ({}, False)):
            self.assertIs(is_paper(claim, value), wanted)
        for value in NO_STRINGS:
            self.assertIs(is_paper(claim, value), False)

    def test_rising_papers(self):
        rising = Convention(BOOK, slot=4), Convention(BOOK)
        claim = ("rising", *rising)
        right = paper_of(claim)
        way, ring = right
        for value, wanted in ((right, True), ((way, ring * 2), True), ((way + ring, ring), True), (list(right), False), ((ring, way), False),
                              ((way, way), False), ((way,), False), (right + (ring,), False), ((way, Signature(BOOK)), False), (way, False),
                              ((way, None), False), ((None, ring), False), (None, False), ("none", False), ((way, ring + "..."), False)):
            self.assertIs(is_paper(claim, value), wanted)
        for value in NO_STRINGS:
            self.assertIs(is_paper(claim, value), False)
        self.assertEqual(paper_of(("rising", *rising[::-1])), "none")
        self.assertIs(is_paper(("rising", *rising[::-1]), right), False)

    def test_too_many_joint_states(self):
        for first, second in (OVER, MANY):
            for word in KINDS[2:]:
                claim = (word, first, second, 5) if word in ("room", "narrow") else (word, first, second)
                self.check_raises(TooMany, STATES, paper_of, claim)
                for value in (None, [], {}, Signature(first.book, "a"), (Signature(first.book), Signature(first.book, "a"))):
                    self.check_raises(TooMany, STATES, is_paper, claim, value)

    def test_400_joint_states(self):
        for claim, is_true in claims_of(*FULL):
            self.check_claim(claim, is_true)
        for plan in (FULL[0], OVER[0], MANY[1]):
            self.check_claim(("alike", plan, plan), True)

    def test_papers_are_new(self):
        for claim in (("right", RIGHT), ("alike", SLOTS, SLOTS), ("room", SLOTS, SLOTS, 0)):
            before = paper_of(claim)
            wanted = list(before) if isinstance(before, list) else dict(before)
            before.clear()
            self.assertEqual(paper_of(claim), wanted)
            is_paper(claim, wanted)
            self.assertEqual(paper_of(claim), wanted)

    def test_registers_and_fills_of_papers(self):
        first = Convention(SORTS, wholes=2, fills={"a": Fill("sign", 20)})
        for second in (first.changed(fills={"a": Fill("sign", 21)}), first.changed(fills={"a": Fill("zeros", 20)}), first.changed(wholes=1),
                       first.changed(fills=None), first.changed(floats=1), first.changed(doubles="split"), first.changed(slot=4)):
            paper = [(*states, 0) for states in joint_states(first, second)]
            self.assertIs(is_paper(("alike", first, second), paper), False)
        self.assertEqual(first.step(first.start(), "a")[0], [Register("whole", 0)])
        self.assertNotEqual(SORTS, WIDE)
