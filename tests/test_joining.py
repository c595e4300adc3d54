"""Adapters one behind another, merged, and compared [67], [68]."""

from itertools import product

from tests.helpers import ALIEN, BOOK, NO_COUNTS, PLANS, WIDE, WIDE_PLANS, Dice, RaisingTest, signature_of
from unlikecalls.adapters import Adapter
from unlikecalls.calls import call, keeps
from unlikecalls.conventions import Convention
from unlikecalls.errors import InvalidAdapter, NotRight, OtherConvention, TooMany
from unlikecalls.fills import Fill, Work
from unlikecalls.judging import first_wrong, table
from unlikecalls.kinds import Book, Kind
from unlikecalls.places import Next, Register
from unlikecalls.signatures import Signature, signatures
from unlikecalls.steps import Step

SLOTS = PLANS[0]
COPY = Step([Next(8, 8)], Work(), [Next(8, 8)])
MOST_FILLS = [Fill("zeros" if extent % 2 else "sign", extent) for extent in range(128, 2, -1)]


def rows_in_order(adapter, most):
    """All rows of letters with at most so many letters, in order; the mark may stand in them several times."""
    for many in range(most + 1):
        yield from product([*adapter.book.names(), "..."], repeat=many)


def state_behind(adapter, row):
    state = 0
    for letter in row:
        state = adapter.mark(state) if letter == "..." else adapter.step(state, letter).next_state
    return state


def last_step(adapter, row):
    """The step for the last letter of a row, in the form in which likes are equal; None for the mark."""
    if not row or row[-1] == "...":
        return None
    step = adapter.step(state_behind(adapter, row[:-1]), row[-1])
    return step.reads(), step.work.plain(), step.writes()


def behaviours(adapter):
    """For each state, as rows in order reach them, what it does for all rows that could tell states apart."""
    found = {}
    for row in rows_in_order(adapter, len(adapter)):
        state = state_behind(adapter, row)
        if state not in found:
            found[state] = [last_step(adapter, row + more) if more else None for more in rows_in_order(adapter, len(adapter))]
    return found


def by_hand(adapter):
    """The merged adapter, by the words of [68]."""
    found = behaviours(adapter)
    kinds = []
    for told in found.values():
        if told not in kinds:
            kinds.append(told)
    samples = [next(state for state, told in found.items() if told == kind) for kind in kinds]
    number = {state: kinds.index(told) for state, told in found.items()}
    states, marks = [], []
    for state in samples:
        steps = {name: adapter.step(state, name) for name in adapter.book.names()}
        states.append({name: Step(step.reads(), step.work.plain(), step.writes(), number[step.next_state])
                       for name, step in steps.items()})
        marks.append(number[adapter.mark(state)])
    return Adapter(adapter.first, adapter.second, states, marks)


def few_adapters(count):
    """Adapters that differ little, so that many of their states do the same."""
    dice = Dice(21)
    works = [Work(), Work(Fill("sign", 9), Fill("sign", 30)), Work(Fill("sign", 30)), Work(Fill("zeros", 20))]
    for _ in range(count):
        many = 1 + dice.roll(4)
        states = [{name: Step([Next(8, 8)], works[0 if dice.roll(3) else dice.roll(4)], [Next(8, 8)], dice.roll(many))
                   for name in BOOK.names()} for _ in range(many)]
        yield Adapter(SLOTS, SLOTS, states, [dice.roll(many) for _ in range(many)])


def doubled(adapter, times):
    """The same with so many copies of each state, which lead to one another; hidden fills stand in their works."""
    many = len(adapter)
    states, marks = [], []
    for copy, state in product(range(times), range(many)):
        steps = {}
        for name in adapter.book.names():
            step = adapter.step(state, name)
            hidden = Work(Fill("zeros", 3 + copy), Fill("sign", 5)) if len(step.work) else Work()
            behind = step.next_state + many * ((copy + 1) % times)
            steps[name] = Step(step.reads(), hidden + step.work, step.writes(), behind)
        states.append(steps)
        marks.append(adapter.mark(state) + many * ((copy + 2) % times))
    return Adapter(adapter.first, adapter.second, states, marks)


def told_ring(many, last_work):
    """A ring of states that do the same but for the last one."""
    states = [{"a": Step([Next(8, 8)], last_work if at == many - 1 else Work(), [Next(8, 8)], (at + 1) % many),
               "w": Step([Next(8, 8)], Work(), [Next(8, 8)], at)} for at in range(many)]
    return Adapter(SLOTS, SLOTS, states, list(range(many)))


class MergedTest(RaisingTest):

    def test_small_adapters(self):
        sizes = []
        for adapter in few_adapters(60):
            merged = adapter.merged()
            self.assertEqual(merged, by_hand(adapter))
            self.assertEqual(merged.merged(), merged)
            self.assertTrue(adapter.is_same(merged))
            sizes.append(len(adapter) - len(merged))
        self.assertIn(0, sizes)
        self.assertIn(2, sizes)

    def test_copies_of_states(self):
        for first, second in list(product(PLANS[:4], PLANS[1:4])) + list(product(WIDE_PLANS[:3], WIDE_PLANS[2:])):
            made = Adapter.made(first, second)
            merged = made.merged()
            self.assertEqual(merged.merged(), merged)
            self.assertIsNotNone(table(merged))
            if 3 * len(merged) <= 400:
                more = doubled(merged, 3)
                self.assertEqual(more.merged(), merged)
                self.assertIsNone(more.first_other(made))
                self.assertTrue(merged.is_same(more))

    def test_states_that_are_not_reached(self):
        other = Step([Register("whole", 0)], Work(), [Next(8, 8)], 2)
        adapter = Adapter(SLOTS, SLOTS, [{"a": COPY, "w": COPY}, {"a": other, "w": COPY}, {"a": COPY, "w": other}], [0, 1, 2])
        self.assertEqual(adapter.merged(), Adapter(SLOTS, SLOTS, [{"a": COPY, "w": COPY}], [0]))

    def test_only_marks_tell_states_apart(self):
        signing = Step([Next(8, 8)], Work(Fill("sign", 20)), [Next(8, 8)], 2)
        to_one = Step([Next(8, 8)], Work(), [Next(8, 8)], 1)
        to_two = Step([Next(8, 8)], Work(), [Next(8, 8)], 2)
        states = [{"a": to_one, "w": COPY}, {"a": to_one, "w": COPY}, {"a": signing, "w": to_two}]
        adapter = Adapter(SLOTS, SLOTS, states, [0, 2, 2])
        self.assertEqual(adapter.merged(), adapter)
        self.assertEqual(adapter.first_other(Adapter(SLOTS, SLOTS, states, [0, 1, 2])), ["a", "...", "a"])
        states[0] = {"a": COPY, "w": COPY}
        twice = Adapter(SLOTS, SLOTS, states, [1, 2, 2])
        self.assertEqual(twice.first_other(Adapter(SLOTS, SLOTS, states, [1, 1, 2])), ["...", "...", "a"])
        self.assertEqual(len(twice.merged()), 3)

    def test_numbers(self):
        steps = {number: Step([Next(8, 8)], Work(Fill("sign", 20 + number)), [Next(8, 8)], number) for number in range(4)}
        states = [{"a": steps[3], "w": steps[1]}, {"a": steps[1], "w": steps[1]}, {"a": steps[0], "w": steps[0]},
                  {"a": steps[2], "w": steps[3]}]
        merged = Adapter(SLOTS, SLOTS, states, [0, 0, 0, 0]).merged()
        self.assertEqual([merged.step(0, "a").next_state, merged.step(0, "w").next_state, merged.step(1, "a").next_state],
                         [1, 2, 3])
        self.assertEqual([len(merged), merged.mark(3), merged.step(3, "a").next_state], [4, 0, 0])

    def test_long_rings(self):
        work = Work(Fill("sign", 20))
        ring = told_ring(400, work)
        self.assertEqual(ring.merged(), ring)
        self.assertEqual(told_ring(400, Work()).merged(), told_ring(1, Work()))
        self.assertEqual(ring.first_other(told_ring(399, work)), ["a"] * 399)
        self.assertEqual(ring.first_other(told_ring(1, Work())), ["a"] * 400)
        self.assertIsNone(told_ring(400, Work()).first_other(told_ring(399, Work())))
        self.assertEqual(doubled(told_ring(100, work), 4).merged(), told_ring(100, work))

    def test_the_longest_works(self):
        hidden = [Fill("zeros", 3 + at % 3) for at in range(60)] + [Fill("sign", 6 + at // 2) for at in range(66)]
        step = Step([Next(8, 8)], Work(*hidden), [Next(8, 8)])
        merged = Adapter(SLOTS, SLOTS, [{"a": step, "w": step}], [0]).merged()
        self.assertEqual(merged.step(0, "a").work, Work(Fill("sign", 38)))


class FirstOtherTest(RaisingTest):

    def test_small_adapters(self):
        adapters = list(few_adapters(24))
        found = []
        for one, other in product(adapters, adapters):
            row = one.first_other(other)
            wanted = None
            for tried in rows_in_order(one, len(one) + len(other) - 1 if row is None else len(row)):
                if last_step(one, tried) != last_step(other, tried):
                    wanted = list(tried)
                    break
            self.assertEqual(row, wanted)
            self.assertEqual(other.first_other(adapter=one), wanted)
            self.assertIs(one.is_same(other), wanted is None)
            found.append(row)
        self.assertGreater(found.count(None), len(adapters))
        self.assertGreater(max(len(row) for row in found if row is not None), 2)

    def test_any_adapters(self):
        dice = Dice(8)
        for _ in range(30):
            one, other = (dice.adapter(WIDE_PLANS[0], WIDE_PLANS[1], 1 + dice.roll(3)) for _ in range(2))
            self.assertEqual(one.first_other(other), ["a"])
            self.assertIsNone(one.first_other(one))
            self.assertTrue(one.merged().is_same(one))

    def test_parts_of_steps(self):
        def adapter(step):
            return Adapter(SLOTS, SLOTS, [{"a": COPY, "w": step}], [0])

        hidden = adapter(Step([Next(8, 8)], Work(Fill("zeros", 9), Fill("sign", 20)), [Next(8, 8)]))
        plain = adapter(Step([Next(8, 8)], Work(Fill("sign", 20)), [Next(8, 8)]))
        self.assertTrue(hidden.is_same(plain))
        for other in (COPY, Step([Next(4, 8)], Work(Fill("sign", 20)), [Next(8, 8)]),
                      Step([Next(8, 8)], Work(Fill("sign", 20)), [Next(8, 4)]),
                      Step([Next(8, 8)], Work(Fill("sign", 20), Fill("zeros", 15)), [Next(8, 8)])):
            self.assertEqual(plain.first_other(adapter(other)), ["w"])

    def test_lists_are_new(self):
        one, other = told_ring(3, Work()), told_ring(3, Work(Fill("sign", 20)))
        one.first_other(other).clear()
        self.assertEqual(one.first_other(other), ["a", "a", "a"])

    def test_wrong_adapters(self):
        adapter = told_ring(1, Work())
        for method in (adapter.first_other, adapter.is_same):
            for value in (*NO_COUNTS, 0, SLOTS, BOOK):
                self.check_raises(InvalidAdapter, {"value": value}, method, value)
            for first, second in product((SLOTS, PLANS[1], Convention(ALIEN)), repeat=2):
                if first.book != second.book or first == second == SLOTS:
                    continue
                attributes = {"one": SLOTS, "other": second if first == SLOTS else first}
                self.check_raises(OtherConvention, attributes, method, Adapter.made(first, second))


class ThenTest(RaisingTest):

    def by_hand(self, one, other):
        """One behind the other, by the words of [67]."""
        pairs, level = [(0, 0)], [(0, 0)]
        while level:
            longer = []
            for pair, letter in product(level, [*one.book.names(), "..."]):
                found = tuple(adapter.mark(state) if letter == "..." else adapter.step(state, letter).next_state
                              for adapter, state in zip((one, other), pair))
                if found not in pairs:
                    pairs.append(found)
                    longer.append(found)
            level = longer
        states = []
        for pair in pairs:
            steps = {}
            for name in one.book.names():
                left, right = one.step(pair[0], name), other.step(pair[1], name)
                work = (left.work.plain() + right.work.plain()).plain()
                steps[name] = Step(left.reads(), work, right.writes(), pairs.index((left.next_state, right.next_state)))
            states.append(steps)
        marks = [pairs.index((one.mark(left), other.mark(right))) for left, right in pairs]
        return Adapter(one.first, other.second, states, marks)

    def test_made_adapters(self):
        dice = Dice(4)
        for plans in (PLANS, WIDE_PLANS):
            for _ in range(25):
                first, middle, second = (dice.pick(plans) for _ in range(3))
                one, other = Adapter.made(first, middle), Adapter.made(middle, second)
                if dice.roll(2):
                    one, other = one.merged(), doubled(other.merged(), 2)
                try:
                    joined = one.then(other)
                except TooMany as error:
                    self.assertEqual((error.what, error.limit), ("states", 400))
                    continue
                self.assertEqual(joined, self.by_hand(one, other))
                self.assertEqual((joined.first, joined.second), (first, second))
                self.assertIsNotNone(table(joined))
                self.check_calls(joined)

    def check_calls(self, adapter):
        for signature in signatures(adapter.book, 2):
            values = [2 ** adapter.book.kind(name).width * 2 // 3 for name in signature.arguments()]
            found = adapter(signature, call(adapter.first, signature, values, [90]), [255])
            self.assertTrue(keeps(adapter.second, signature, found, values))

    def test_numbers_of_states(self):
        rings = [told_ring(many, Work(Fill("sign", 64))) for many in (19, 20, 21)]
        joined = rings[0].then(rings[2])
        self.assertEqual(joined, self.by_hand(rings[0], rings[2]))
        self.assertEqual(len(joined), 399)
        limit = {"what": "states", "limit": 400}
        self.check_raises(TooMany, limit, rings[1].then, rings[2])
        self.check_raises(TooMany, limit, rings[2].then, other=rings[1])
        self.assertEqual(len(rings[1].then(rings[1])), 20)
        full = told_ring(16, Work()).then(told_ring(25, Work()))
        self.assertEqual((len(full), len(full.merged())), (400, 1))

    def test_works(self):
        full = Work(*MOST_FILLS)
        self.assertEqual(full.plain(), full)
        book = Book(Kind("a", size=16, width=65))
        plan = Convention(book)
        step = Step([Next(16, 16)], full, [Next(16, 16)])
        joined = Adapter(plan, plan, [{"a": step}], [0])
        # The second work hides the first one, though both have too many fills together.
        self.assertEqual(joined.then(joined).step(0, "a").work, full)
        short = Adapter(plan, plan, [{"a": Step([Next(16, 16)], Work(Fill("zeros", 66), Fill("zeros", 90)), [Next(16, 16)])}], [0])
        self.assertEqual(short.then(joined).step(0, "a").work, full)
        self.assertEqual(joined.then(short).step(0, "a").work, Work(*MOST_FILLS[:38], Fill("zeros", 90)).plain())
        self.assertEqual(short.then(short).step(0, "a").work, Work(Fill("zeros", 90)))

    def test_several_marks(self):
        signing = Step([Next(8, 8)], Work(Fill("sign", 20)), [Next(8, 8)], 2)
        states = [{"a": COPY, "w": COPY}, {"a": Step([Next(8, 8)], Work(), [Next(8, 8)], 1), "w": COPY},
                  {"a": signing, "w": signing}]
        adapter = Adapter(SLOTS, SLOTS, states, [1, 2, 2])
        joined = adapter.then(adapter)
        self.assertEqual((len(joined), joined.mark(0), joined.mark(1), joined.mark(2)), (3, 1, 2, 2))
        self.assertEqual(joined, self.by_hand(adapter, adapter))

    def test_both_stay_as_they_were(self):
        one, other = told_ring(3, Work()), told_ring(2, Work())
        one.then(other)
        self.assertEqual((one, other), (told_ring(3, Work()), told_ring(2, Work())))

    def test_wrong_adapters(self):
        adapter = told_ring(1, Work())
        for value in (*NO_COUNTS, 0, SLOTS, BOOK):
            self.check_raises(InvalidAdapter, {"value": value}, adapter.then, value)
        for first in (PLANS[1], PLANS[6], Convention(ALIEN)):
            other = Adapter.made(first, first)
            self.check_raises(OtherConvention, {"one": SLOTS, "other": first}, adapter.then, other)
            self.check_raises(OtherConvention, {"one": first, "other": SLOTS}, other.then, adapter)
        # Conventions that do not meet come ahead of steps that are wrong.
        wrong = Adapter(PLANS[1], SLOTS, [{"a": COPY, "w": COPY}], [0])
        self.check_raises(OtherConvention, {"one": SLOTS, "other": PLANS[1]}, wrong.then, wrong)

    def test_adapters_that_are_not_right(self):
        right = told_ring(2, Work())
        late = Adapter(SLOTS, SLOTS, [{"a": COPY, "w": Step([Next(8, 8)], Work(), [Next(8, 8)], 1)},
                                      {"a": Step([Next(8, 1)], Work(), [Next(8, 8), Next(8, 8)], 1), "w": COPY}], [0, 0])
        early = Adapter(SLOTS, SLOTS, [{"a": COPY, "w": Step([Next(8, 7)], Work(), [Next(8, 8)])}], [0])
        wrong_late, wrong_early = signature_of("wa"), signature_of("w")
        self.assertEqual([first_wrong(late), first_wrong(early)], [wrong_late, wrong_early])
        for one, other, witness in ((late, right, wrong_late), (right, late, wrong_late), (late, early, wrong_late),
                                    (early, late, wrong_early), (right, early, wrong_early)):
            self.check_raises(NotRight, {"witness": witness}, one.then, other)

    def test_many_entries(self):
        limit = {"what": "entries", "limit": 1000}
        many = wide_ring(249)
        right, wrong = told_ring_of(many, Work()), Adapter(many.first, many.second, [{"a": COPY}], [0])
        self.assertIsNotNone(first_wrong(wrong))
        for one, other in ((many, many), (many, right), (right, many), (many, wrong), (wrong, many)):
            self.check_raises(TooMany, limit, one.then, other)
        self.check_raises(NotRight, {"witness": first_wrong(wrong)}, right.then, wrong)
        self.assertEqual(len(wide_ring(247).then(right)), 248)


def told_ring_of(adapter, work):
    """An adapter with one state for the conventions of another one."""
    return Adapter.made(adapter.first, adapter.second).merged()


def wide_ring(many):
    """An adapter that is right, with a ring of states for one kind and one state for the tail."""
    book = Book(Kind("a", size=4))
    plan = Convention(book, slot=4)
    states = [{"a": Step([Next(4, 4)], Work(), [Next(4, 4)], (at + 1) % many)} for at in range(many)]
    states.append({"a": Step([Next(4, 4)], Work(), [Next(4, 4)], many)})
    return Adapter(plan, plan, states, [many] * (many + 1))
