"""Leads, the room that passes need for all signatures, and the papers for it [81], [83]."""

from itertools import product

from tests.helpers import (
    ALIEN, BOOK, FULL, MANY, NO_COUNTS, NO_STRINGS, OVER, PLANS, SORT_PLANS, SORTS, WIDE, WIDE_PLANS, Dice, RaisingTest,
    first_ways, signature_of, states_of,
)
from unlikecalls.conventions import Convention
from unlikecalls.errors import InvalidConvention, InvalidSignature, OtherBook, TooMany
from unlikecalls.fills import Fill
from unlikecalls.kinds import Book, Kind
from unlikecalls.leads import (
    depths, falling_ring, greatest_lead, heights, is_depths, is_heights, is_rising, lead, lead_signature, least_lead,
    least_room, rising_ring,
)
from unlikecalls.sides import joint_states
from unlikecalls.signatures import Signature, signatures

LIMIT = {"what": "joint states", "limit": 400}
PAIRS = list(product(PLANS, PLANS)) + list(product(WIDE_PLANS, WIDE_PLANS)) + list(product(SORT_PLANS, SORT_PLANS))[::3]
QUESTIONS = (greatest_lead, least_lead, least_room, heights, depths, lead_signature, rising_ring, falling_ring)
CHECKS = (is_heights, is_depths, is_rising)


def random_pairs(count, seed=31):
    """Any two conventions of one book, not too many joint states."""
    dice = Dice(seed)
    books = (BOOK, WIDE, SORTS, Book(Kind("z", size=2)), Book(Kind("p", size=16, align=4), Kind("q", "float", size=16)))
    while count > 0:
        book = dice.pick(books)
        first, second = dice.convention(book), dice.convention(book)
        if len(first_ways([first, second])) <= 400:
            yield first, second
            count -= 1


def edges_of(first, second):
    """The joint states, and for each of them what letters add to the lead and where they lead, by the words of [32]."""
    edges = {}
    for one, other in first_ways([first, second]):
        letters = first.book.names() + ([] if one[4] else ["..."])
        edges[one, other] = []
        for letter in letters:
            _, behind, growth = first.step(one, letter)
            _, other_behind, other_growth = second.step(other, letter)
            edges[one, other].append(((behind, other_behind), other_growth - growth))
    return edges


def greatest_by_hand(first, second, sign=1):
    """The greatest leads (the least ones for the sign -1) by joint states; None if they grow without end."""
    edges = edges_of(first, second)
    found = {(first.start(), second.start()): sign * (second.home - first.home)}
    for _ in range(len(edges) + 1):
        changed = False
        for state, row in edges.items():
            for behind, more in row if state in found else ():
                if behind not in found or found[state] + sign * more > found[behind]:
                    found[behind] = found[state] + sign * more
                    changed = True
        if not changed:
            return {state: sign * top for state, top in found.items()}
    return None


def is_bounds_by_hand(first, second, value, sign):
    edges = edges_of(first, second)
    if set(value) != set(edges) or sign * value[first.start(), second.start()] < sign * (second.home - first.home):
        return False
    return all(sign * value[behind] >= sign * (value[state] + more) for state, row in edges.items() for behind, more in row)


class LeadTest(RaisingTest):

    def lead_by_hand(self, first, second, signature):
        """The ends by the words of [32]: HOME and what the letters add."""
        ends = []
        for plan in (first, second):
            state, offset = plan.start(), plan.home
            for letter in signature.letters():
                _, state, growth = plan.step(state, letter)
                offset += growth
            ends.append(offset)
        return ends[1] - ends[0]

    def test_short_signatures(self):
        short = list(signatures(SORTS, 3))
        for first, second in product(SORT_PLANS, repeat=2):
            for signature in short[::1 + SORT_PLANS.index(first) % 3]:
                self.assertEqual(lead(first, second, signature), self.lead_by_hand(first, second, signature))

    def test_longer_signatures(self):
        dice = Dice(5)
        for first, second in random_pairs(60):
            for many in (4, 9, 30):
                signature = dice.signature(first.book, many)
                found = lead(second=second, first=first, signature=signature)
                self.assertEqual(found, self.lead_by_hand(first, second, signature))
                self.assertEqual(found, (second >> signature).end - (first >> signature).end)
                self.assertEqual(lead(second, first, signature), -found)

    def test_all_places_of_the_mark(self):
        letters = ["a", "d", "f", "a", "a"]
        for first, second in product(SORT_PLANS[1:8:3], SORT_PLANS):
            for at in range(6):
                signature = Signature(SORTS, *letters[:at], "...", *letters[at:])
                self.assertEqual(lead(first, second, signature), self.lead_by_hand(first, second, signature))

    def test_longest_signatures(self):
        signature = Signature(BOOK, *["a"] * 999, "...")
        self.assertEqual(lead(Convention(BOOK), Convention(BOOK, slot=4), signature), -4 * 999)
        self.assertEqual(lead(Convention(BOOK, slot=4), Convention(BOOK, home=32), signature), 4 * 999 + 32)
        self.assertEqual(lead(Convention(BOOK, wholes=3), Convention(BOOK), signature), 24)
        doubles = Signature(SORTS, *["d"] * 1000)
        self.assertEqual(lead(SORT_PLANS[0], SORT_PLANS[7], doubles), -24)

    def test_beside_itself(self):
        for plan in PLANS + WIDE_PLANS + SORT_PLANS:
            self.assertEqual([lead(plan, plan, signature) for signature in signatures(plan.book, 2)],
                             [0] * len(list(signatures(plan.book, 2))))

    def test_example(self):
        first, second = Convention(BOOK, wholes=1), Convention(BOOK, slot=4)
        found = [lead(first, second, Signature(BOOK, "a", "a", "w")), greatest_lead(first, second),
                 lead_signature(first, second), least_room(first, second, backward=True)]
        self.assertEqual(found, [0, 8, Signature(BOOK, "w"), None])
        bare, ring = Convention(BOOK), Signature(BOOK, "a") * 4
        found = [heights(second, bare), is_rising(second, bare, (Signature(BOOK, "a"), ring)),
                 is_rising(second, bare, (Signature(BOOK), ring))]
        self.assertEqual(found, [None, True, False])

    def test_no_limit(self):
        for first, second in (OVER, MANY):
            signature = Signature(first.book, "a", "b", "...", "c")
            self.assertEqual(lead(first, second, signature), self.lead_by_hand(first, second, signature))

    def test_wrong_inputs(self):
        signature = signature_of("a")
        for value in (*NO_COUNTS, 0, BOOK, signature):
            self.check_raises(InvalidConvention, {"value": value}, lead, value, 5, 6)
            self.check_raises(InvalidConvention, {"value": value}, lead, PLANS[0], value, 6)
            self.check_raises(InvalidConvention, {"value": value}, lead, signature=7, second=value, first=PLANS[0])
        for value in (*NO_STRINGS, "a", PLANS[0], BOOK):
            self.check_raises(InvalidSignature, {"value": value}, lead, PLANS[0], Convention(ALIEN), value)
        alien = signature_of("a", ALIEN)
        for given in ((PLANS[0], PLANS[1], alien), (PLANS[0], Convention(ALIEN), signature), (PLANS[0], Convention(ALIEN), alien)):
            self.check_raises(OtherBook, {"one": BOOK, "other": ALIEN}, lead, *given)
        self.check_raises(OtherBook, {"one": ALIEN, "other": BOOK}, lead, Convention(ALIEN), PLANS[0], alien)
        self.check_raises(OtherBook, {"one": BOOK, "other": WIDE}, lead, PLANS[0], WIDE_PLANS[0], alien)


class GreatestTest(RaisingTest):

    def check_pair(self, first, second):
        up, down = greatest_by_hand(first, second), greatest_by_hand(first, second, -1)
        top = None if up is None else max(up.values())
        low = None if down is None else min(down.values())
        self.assertEqual((greatest_lead(first, second), least_lead(first, second)), (top, low))
        self.assertEqual((heights(first, second), depths(first, second)), (up, down))
        self.assertEqual(least_room(first, second), None if top is None else max(0, top))
        self.assertEqual(least_room(first, second, backward=False), None if top is None else max(0, top))
        self.assertEqual(least_room(first, second, backward=True), None if low is None else max(0, -low))
        self.check_first_one(first, second, top)
        self.check_ring(first, second, rising_ring(first, second), up, 1)
        self.check_ring(first, second, falling_ring(first, second), down, -1)
        return (top is None) + 2 * (low is None)

    def check_first_one(self, first, second, top):
        """The first signature with the greatest lead: none ahead of it has it, as far as they are few."""
        found = lead_signature(first, second)
        if top is None:
            self.assertIsNone(found)
            return
        self.assertEqual(lead(first, second, found), top)
        for signature in signatures(first.book, min(len(found), 4)):
            if signature < found:
                self.assertLess(lead(first, second, signature), top)

    def check_ring(self, first, second, found, tops, sign):
        """A way and a ring that works, however often it is gone; None just if there are heights (depths)."""
        if tops is not None:
            self.assertIsNone(found)
            return
        way, ring = found
        self.assertEqual([type(part) for part in (found, way, ring)], [tuple, Signature, Signature])
        self.assertGreater(len(ring), 0)
        self.assertFalse(ring.has_mark)
        leads = [lead(first, second, way + ring * times) for times in range(4)]
        steps = [other - one for one, other in zip(leads, leads[1:])]
        self.assertEqual(steps, steps[:1] * 3)
        self.assertGreater(sign * steps[0], 0)
        states = [states_of((first, second), way + ring * times) for times in range(4)]
        self.assertEqual(states, states[:1] * 4)
        self.assertIs(is_rising(first, second, found), sign == 1)
        self.assertIs(is_rising(second, first, found), sign == -1)

    def test_all_pairs(self):
        found = [self.check_pair(first, second) for first, second in PAIRS]
        self.assertEqual(sorted(set(found)), [0, 1, 2])

    def test_any_pairs(self):
        found = [self.check_pair(first, second) for first, second in random_pairs(80)]
        self.assertEqual(sorted(set(found)), [0, 1, 2, 3])

    def test_no_signature_exceeds(self):
        for first, second in list(random_pairs(30, 7)):
            leads = [lead(first, second, signature) for signature in signatures(first.book, 3)]
            top, low = greatest_lead(first, second), least_lead(first, second)
            self.assertTrue(top is None or max(leads) <= top)
            self.assertTrue(low is None or min(leads) >= low)

    def test_the_empty_signature(self):
        for home in (0, 16, 32):
            first, second = Convention(BOOK), Convention(BOOK, home=home, slot=4)
            self.assertEqual((greatest_lead(first, second), lead_signature(first, second)), (home, Signature(BOOK)))
            self.assertEqual((least_room(first, second), least_room(second, first, backward=True)), (home, home))
            self.assertIsNone(least_room(first, second, backward=True))
            self.assertIsNone(lead_signature(second, first))
        first = Convention(BOOK, home=16)
        second = Convention(BOOK)
        self.assertEqual((greatest_lead(first, second), least_lead(first, second)), (-16, -16))
        self.assertEqual((least_room(first, second), least_room(first, second, backward=True)), (0, 16))
        self.assertEqual(lead_signature(first, second), Signature(BOOK))

    def test_the_greatest_one_behind_the_mark(self):
        first, second = Convention(BOOK, wholes=2, again=True), Convention(BOOK, wholes=2, again=True, tail="slots")
        self.assertEqual((greatest_lead(first, second), lead_signature(first, second)), (16, signature_of(".aa")))
        self.assertEqual(least_room(first, second), 16)
        self.assertEqual(least_lead(first, second), 0)

    def test_a_long_way_to_the_greatest_one(self):
        book = Book(Kind("a", size=4, align=4), Kind("b", size=4, align=16))
        first, second = Convention(book, wholes=3, slot=4), Convention(book, slot=4)
        self.assertEqual(self.check_pair(first, second), 0)
        self.assertGreater(len(lead_signature(first, second)), 3)

    def test_rings_behind_the_mark(self):
        book = Book(Kind("a", size=4, align=4))
        first = Convention(book, wholes=1, slot=4, again=True)
        second = Convention(book, wholes=1, slot=8, again=True, tail="slots")
        way, ring = rising_ring(first, second)
        self.check_ring(first, second, (way, ring), None, 1)
        fours = Convention(SORTS, slot=4)
        for plan in (fours.changed(tail="slots", floats=1), fours.changed(tail="slots", wholes=3)):
            self.assertLess(self.check_pair(plan, fours), 4)

    def test_400_joint_states(self):
        self.assertIn(self.check_pair(*FULL), (0, 1, 2, 3))
        self.assertIn(self.check_pair(*FULL[::-1]), (0, 1, 2, 3))

    def test_too_many_joint_states(self):
        for first, second in (OVER, MANY, OVER[::-1], MANY[::-1]):
            for function in QUESTIONS:
                for _ in range(2):
                    self.check_raises(TooMany, LIMIT, function, first, second)
            for function in CHECKS:
                for value in (None, {}, (Signature(first.book), Signature(first.book))):
                    self.check_raises(TooMany, LIMIT, function, first, second, value)
        for plan in (*OVER, *MANY):
            self.assertEqual((greatest_lead(plan, plan), least_lead(plan, plan)), (0, 0))

    def test_dicts_are_new(self):
        first, second = Convention(BOOK, wholes=1), Convention(BOOK, wholes=2)
        for function in (heights, depths):
            before = dict(function(first, second))
            function(first, second).clear()
            function(first, second)[first.start(), second.start()] = 99
            self.assertEqual(function(first, second), before)
            self.assertEqual([type(part) for part in list(before.items())[0]], [tuple, int])
            self.assertEqual(sorted(before), joint_states(first, second))

    def test_fills_do_not_matter(self):
        first, second = Convention(BOOK, wholes=1), Convention(BOOK, slot=4)
        other = first.changed(fills={"a": Fill("sign", 40)})
        for function in QUESTIONS:
            self.assertEqual(function(first, second), function(other, second))


class BoundsTest(RaisingTest):

    def values(self, first, second, dice):
        """Dicts with all joint states: what is right, and what differs from it in one number or in many."""
        for right in (heights(first, second), depths(first, second), {state: 0 for state in joint_states(first, second)}):
            if right is None:
                continue
            states = list(right)
            yield right
            for more in (-8, -1, 1, 30):
                yield {state: right[state] + more for state in states}
                for _ in range(3):
                    yield {**right, dice.pick(states): right[states[0]] + more}
                    state = dice.pick(states)
                    yield {**right, state: right[state] + more}

    def test_numbers(self):
        dice, found = Dice(3), {True: 0, False: 0}
        for first, second in list(random_pairs(25, 9)) + PAIRS[::9]:
            for value in self.values(first, second, dice):
                for function, sign in ((is_heights, 1), (is_depths, -1)):
                    wanted = is_bounds_by_hand(first, second, value, sign)
                    self.assertIs(function(first, second, value), wanted)
                    found[wanted] += 1
        self.assertGreater(min(found.values()), 100)

    def test_no_heights_where_there_are_rings(self):
        first, second = Convention(BOOK, slot=4), Convention(BOOK)
        self.assertIsNotNone(rising_ring(first, second))
        for number in (0, 10 ** 9, -10 ** 9):
            value = {state: number for state in joint_states(first, second)}
            self.assertIs(is_heights(first, second, value), False)
        self.assertIs(is_depths(first, second, {state: -number for state in joint_states(first, second)}), False)

    def test_other_values(self):
        first, second = Convention(BOOK, wholes=1), Convention(BOOK, wholes=2)
        for function, right in ((is_heights, heights(first, second)), (is_depths, depths(first, second))):
            self.assertIs(function(value=right, second=second, first=first), True)
            states = list(right)
            for at in (0, 3, len(states) - 1):
                state = states[at]
                less = {each: right[each] for each in states if each != state}
                one, other = state
                keys = (None, 0, "state", (), (one,), (one, other, other), (one[:5], other), (one, other + (0,)), (other, one, 0),
                        one, ((*one[:5], 7), other), (tuple(bool(number) for number in one), other), (None, other), True)
                self.assertIs(function(first, second, less), False)
                for key in keys:
                    if key != state:
                        self.assertIs(function(first, second, {**less, key: right[state]}), False, key)
                        self.assertIs(function(first, second, {**right, key: right[state]}), False, key)
                flags = tuple(bool(number) if number in (0, 1) else number for number in one)
                self.assertIs(function(first, second, {**less, (flags, other): right[state]}), False)
                for bound in (True, False, None, "0", "", [], (), [right[state]], {}, object()):
                    self.assertIs(function(first, second, {**right, state: bound}), False, bound)
            for value in (*NO_COUNTS, 0, first, list(right.items()), tuple(right), [right], (right,), list(right)):
                self.assertIs(function(first, second, value), False, value)
            self.assertIs(function(first, second, dict(reversed(list(right.items())))), True)
            before = dict(right)
            function(first, second, right)
            self.assertEqual(right, before)


class RisingTest(RaisingTest):

    def by_hand(self, first, second, way, ring):
        letters = way.letters() + ring.letters()
        if letters.count("...") > 1 or len(letters) > 1000:
            return False
        whole = Signature(first.book, *letters)
        if states_of((first, second), way) != states_of((first, second), whole):
            return False
        return lead(first, second, whole) > lead(first, second, way)

    def test_short_ones(self):
        found = {True: 0, False: 0}
        for first, second in ((Convention(BOOK, slot=4), Convention(BOOK)), (Convention(BOOK), Convention(BOOK, slot=4)),
                              (Convention(BOOK, slot=4, natural=False), Convention(BOOK, wholes=1, slot=4)),
                              (Convention(BOOK, wholes=1, again=True, slot=4), Convention(BOOK, tail="slots"))):
            rings = [Signature(BOOK, *letters) for many in range(5) for letters in product("aw", repeat=many)]
            rings += [signature_of(letters) for letters in (".", "a.", ".aaaa", "aa.aa", "aaaa.")]
            for way, ring in product(signatures(BOOK, 2), rings):
                wanted = self.by_hand(first, second, way, ring)
                self.assertIs(is_rising(first, second, (way, ring)), wanted, (way, ring))
                found[wanted] += 1
        self.assertGreater(min(found.values()), 15)

    def test_long_ones(self):
        first, second = Convention(BOOK, slot=4), Convention(BOOK)
        way, ring = signature_of("a"), signature_of("aaaa")
        self.assertIs(is_rising(first, second, (way, ring * 249)), True)
        self.assertIs(is_rising(first, second, (ring, ring * 249)), True)
        self.assertIs(is_rising(first, second, (ring + way, ring * 249)), False)
        self.assertIs(is_rising(first, second, (way + ring * 248, ring)), True)
        self.assertIs(is_rising(first, second, (way + "..." + ring * 248, ring)), True)
        self.assertIs(is_rising(first, second, (way + ring * 249, ring)), False)
        self.assertIs(is_rising(first, second, (way, ring * 250)), False)
        self.assertIs(is_rising(first, second, (ring * 250, ring * 250)), False)

    def test_marks(self):
        first, second = Convention(BOOK, slot=4), Convention(BOOK)
        ring = signature_of("aaaa")
        self.assertIs(is_rising(first, second, (signature_of("a."), ring)), True)
        self.assertIs(is_rising(first, second, (signature_of("a"), ring + "...")), False)
        self.assertIs(is_rising(first, second, (signature_of("a."), ring + "...")), False)
        self.assertIs(is_rising(first, second, (signature_of("."), signature_of("."))), False)

    def test_other_values(self):
        first, second = Convention(BOOK, slot=4), Convention(BOOK)
        way, ring = signature_of("a"), signature_of("aaaa")
        self.assertIs(is_rising(value=(way, ring), first=first, second=second), True)
        same = Book(Kind("a", size=1), Kind("w"))
        self.assertIs(is_rising(first, second, (Signature(same, "a"), Signature(same, *"aaaa"))), True)
        none = [*NO_COUNTS, 0, "aa", way, [way, ring], (way,), (ring,), (way, ring, ring), (ring, way), (way, Signature(BOOK)),
                (way, None), (None, ring), ("a", "aaaa"), (["a"], ["a"] * 4), (way.letters(), ring.letters()), {way.letters()[0]: 1},
                (signature_of("a", ALIEN), signature_of("aaaa", ALIEN)), (way, signature_of("aaaa", ALIEN)),
                (signature_of("a", ALIEN), ring), (BOOK, ring), (way, 4), (True, ring), ((way, ring), ring)]
        for value in none:
            self.assertIs(is_rising(first, second, value), False, value)
            self.assertIs(is_rising(second, first, value), False, value)


class WrongInputTest(RaisingTest):

    def test_conventions(self):
        for function in QUESTIONS + CHECKS:
            more = (None,) if function in CHECKS else ()
            for value in (*NO_COUNTS, 0, BOOK, "plan"):
                self.check_raises(InvalidConvention, {"value": value}, function, value, PLANS[0], *more)
                self.check_raises(InvalidConvention, {"value": value}, function, value, 77, *more)
                self.check_raises(InvalidConvention, {"value": value}, function, PLANS[0], value, *more)
            named = {"value": None} if more else {}
            self.check_raises(InvalidConvention, {"value": 8}, function, second=9, first=8, **named)

    def test_other_books(self):
        for function in QUESTIONS + CHECKS:
            more = (None,) if function in CHECKS else ()
            self.check_raises(OtherBook, {"one": BOOK, "other": ALIEN}, function, PLANS[0], Convention(ALIEN), *more)
            self.check_raises(OtherBook, {"one": BOOK, "other": MANY[0].book}, function, PLANS[0], MANY[0], *more)
            same = Convention(Book(Kind("a", size=1), Kind("w")))
            self.assertEqual(function(PLANS[1], same, *more), function(PLANS[1], PLANS[0], *more))

    def test_backward_by_name_alone(self):
        with self.assertRaises(TypeError):
            least_room(PLANS[0], PLANS[1], True)
