"""Whether adapters are right: entries, faults, tables, and runs that show a wrong bit [64], [66], [71], [72]."""

from itertools import product

from tests.helpers import (
    ALIEN, BOOK, MANY, NO_COUNTS, NO_STRINGS, OVER, PLANS, WIDE, WIDE_PLANS, Dice, RaisingTest, Walker, row_of,
    signature_of,
)
from unlikecalls.adapters import Adapter
from unlikecalls.calls import call, first_broken, keeps
from unlikecalls.conventions import Convention
from unlikecalls.errors import InvalidAdapter, InvalidSignature, OtherBook, TooMany
from unlikecalls.fills import Fill, Work
from unlikecalls.judging import entry, fault, first_wrong, is_right, is_shown, is_table, shown, table, ways
from unlikecalls.kinds import Book, Kind
from unlikecalls.places import Next, Register, Slots
from unlikecalls.signatures import Signature, signatures
from unlikecalls.steps import Step

LIMIT = {"what": "entries", "limit": 1000}
SLOTS = PLANS[0]
WHOLE, OTHER = Register("whole", 0), Register("whole", 1)
COPY = Step([Next(8, 8)], Work(), [Next(8, 8)])
# Conventions for which values, and so all that can be wrong, are few.
SMALL = Book(Kind("a", size=1, width=3), Kind("b", size=2, width=5))
SMALL_PLANS = [Convention(SMALL, fills={"a": Fill("sign", 12)}), Convention(SMALL, wholes=1, fills={"a": Fill("sign", 9)}),
               Convention(SMALL, slot=4, fills={"b": Fill("zeros", 40)}), Convention(SMALL, wholes=2, home=16)]


def entry_by_hand(adapter, signature):
    walker = Walker(adapter, signature)
    layout = adapter.first >> signature
    states = layout.states()[-1], (adapter.second >> signature).states()[-1]
    return (*states, walker.state, walker.reading - layout.end)


def lies_in(place, pieces):
    """Whether a place is a register of the pieces, or lies within one of them."""
    if isinstance(place, Register):
        return place in pieces
    return any(isinstance(piece, Slots) and all(piece.offset <= at < piece.end for at in (place.offset, place.end - 1))
               for piece in pieces)


def fault_by_hand(adapter, signature):
    """The fault of the step of the last argument: a bit that can be wrong is wrong for a single bit of its value, or
    for the value 0 or the greatest one, and for garbage of 0 or of 1 alone."""
    name, step, reads, writes = Walker(adapter, signature).passed[-1]
    layout, other = adapter.first >> signature, adapter.second >> signature
    last = len(layout) - 1
    pieces, wanted = layout.pieces(last), other.pieces(last)
    for number, place in enumerate(reads):
        if not lies_in(place, pieces):
            return "read", number
    if writes != wanted:
        return "write", min(at for at in range(3) if writes[at:at + 1] != wanted[at:at + 1])
    width, fill, wrong = adapter.book.kind(name).width, other.fill(last), []
    for value in [0, 2 ** width - 1] + [1 << bit for bit in range(width)]:
        for garbage in ([0], [255]):
            frame = call(adapter.first, signature, [0] * last + [value], garbage)
            row = row_of(frame, reads, writes, step.work.fills(), width)
            bits = [value >> at & 1 for at in range(width)]
            if fill.word != "free":
                bits = bits + [bits[-1] if fill.word == "sign" else 0] * (fill.extent - width)
            wrong.extend([at for at, bit in enumerate(bits) if row[at] != bit])
    return ("bit", min(wrong)) if wrong else None


def reached_by_hand(adapter):
    """The reached entries with their first signatures, and the first wrong signature, by the words of [66] and [71]."""
    found, wrong = {}, []
    level = [Signature(adapter.book)]
    while level:
        longer = []
        for signature in level:
            one = entry_by_hand(adapter, signature)
            if one in found:
                continue
            found[one] = signature
            for letter in adapter.book.names() + ([] if signature.has_mark else ["..."]):
                more = signature + letter
                if letter != "..." and fault_by_hand(adapter, more) is not None:
                    wrong.append(more)
                else:
                    longer.append(more)
        level = longer
    return found, min(wrong) if wrong else None


def places(dice, plans, name):
    """Reads or writes that are often right."""
    signature = Signature(SMALL, *[dice.pick(("a", "b")) for _ in range(dice.roll(3))], name)
    pieces = (dice.pick(plans) >> signature).pieces(len(signature) - 1)
    parts = [piece if isinstance(piece, Register) else Next(8, piece.many) for piece in pieces]
    if dice.roll(4) == 0:
        parts = [Next(dice.pick((1, 2, 4, 8)), dice.pick((1, 2, 3, 4, 8)))]
        if dice.roll(2):
            parts.append(Next(1, 1 + dice.roll(4)))
    return parts


def some_adapters(count):
    """Adapters that are right for many signatures and wrong for many others."""
    dice = Dice(17)
    works = (Work(), Work(Fill("sign", 12)), Work(Fill("zeros", 40)), Work(Fill("zeros", 5), Fill("sign", 9)))
    for _ in range(count):
        first, second = dice.pick(SMALL_PLANS), dice.pick(SMALL_PLANS)
        made = Adapter.made(first, second).merged()
        many = len(made)
        states = []
        for state in range(many):
            steps = {}
            for name in SMALL.names():
                step = made.step(state, name)
                reads, work, writes, behind = step.reads(), step.work, step.writes(), step.next_state
                change = dice.roll(10)
                reads = places(dice, [first], name) if change in (0, 1) else reads
                work = dice.pick(works) if change in (1, 2) else work
                writes = places(dice, [second], name) if change == 3 else writes
                behind = dice.roll(many) if change == 4 else behind
                steps[name] = Step(reads, work, writes, behind)
            states.append(steps)
        yield Adapter(first, second, states, [made.mark(state) for state in range(many)])


def one_state(first, second, **steps):
    return Adapter(first, second, [steps], [0])


class ExampleTest(RaisingTest):

    def test_example(self):
        caller, callee = Convention(BOOK), Convention(BOOK, slot=4, fills={"a": Fill("sign", 32)})
        plain = one_state(caller, callee, a=Step([Next(8, 8)], Work(), [Next(4, 4)]), w=COPY)
        found = [first_wrong(plain), fault(plain, Signature(BOOK, "w", "a")), is_shown(plain, ([0], [255], [255])),
                 is_shown(plain, ([0], [], []))]
        self.assertEqual(found, [Signature(BOOK, "a"), ("bit", 8), True, False])
        signing = one_state(caller, callee, a=Step([Next(8, 8)], Work(Fill("sign", 32)), [Next(4, 4)]), w=COPY)
        found = [first_wrong(signing), len(table(signing)), table(signing)[0]]
        self.assertEqual(found, [None, 18, ((0, 0, 0, 0, 0, 0), (0, 0, 0, 0, 0, 0), 0, 0)])


class FaultTest(RaisingTest):

    def test_some_adapters(self):
        kinds = {}
        for adapter in some_adapters(30):
            for signature in signatures(SMALL, 3):
                self.assertEqual(entry(adapter, signature), entry_by_hand(adapter, signature))
                found = fault(adapter, signature)
                letters = signature.letters()
                wanted = None if not letters or letters[-1] == "..." else fault_by_hand(adapter, signature)
                self.assertEqual(found, wanted)
                right = all(fault(adapter, signature.before(many)) is None for many in range(len(signature) + 1))
                self.assertIs(is_right(adapter, signature), right)
                kinds[None if found is None else found[0]] = True
        self.assertEqual(len(kinds), 4)

    def test_any_adapters(self):
        dice = Dice(2)
        for _ in range(20):
            adapter = dice.adapter(dice.pick(SMALL_PLANS), dice.pick(SMALL_PLANS), 1 + dice.roll(3))
            for signature in signatures(SMALL, 3):
                self.assertEqual(entry(adapter, signature), entry_by_hand(adapter, signature))
                if signature.tail_names() or not signature.has_mark and len(signature) > 0:
                    self.assertEqual(fault(adapter, signature), fault_by_hand(adapter, signature))

    def check_step(self, first, second, step, wanted, name="a", ahead=()):
        """The fault of a step behind others that are right."""
        made = Adapter.made(first, second)
        states = [{each: made.step(state, each) for each in first.book.names()} for state in range(len(made))]
        signature = Signature(first.book, *ahead)
        state = entry(made, signature)[2]
        states[state][name] = step
        adapter = Adapter(first, second, states, [made.mark(number) for number in range(len(made))])
        self.assertEqual(fault(adapter, signature + name), wanted)
        self.assertIs(is_right(adapter, signature + name), wanted is None)

    def test_reads(self):
        rows = (([Next(8, 8)], None), ([Next(1, 1)], None), ([Next(1, 1), Next(1, 7)], None), ([Next(2, 9)], ("read", 0)),
                ([Next(16, 1)], None), ([Next(8, 8), Next(1, 1)], ("read", 1)), ([Next(1, 2), Next(8, 1)], ("read", 1)),
                ([WHOLE], ("read", 0)), ([Next(1, 1), WHOLE], ("read", 1)), ([WHOLE, OTHER], ("read", 0)))
        for reads, wanted in rows:
            self.check_step(SLOTS, PLANS[2], Step(reads, Work(), [Next(4, 4)]), wanted)
        plan = Convention(BOOK, wholes=1)
        rows = (([WHOLE], None), ([WHOLE, WHOLE], None), ([OTHER], ("read", 0)), ([Register("float", 0)], ("read", 0)),
                ([WHOLE, OTHER], ("read", 1)), ([Next(8, 8)], ("read", 0)), ([WHOLE, Next(1, 1)], ("read", 1)))
        for reads, wanted in rows:
            self.check_step(plan, plan, Step(reads, Work(), [WHOLE]), wanted)

    def test_writes(self):
        plan = Convention(BOOK, wholes=1)
        rows = (([WHOLE], None), ([OTHER], ("write", 0)), ([WHOLE, OTHER], ("write", 1)), ([Next(8, 8)], ("write", 0)),
                ([Next(8, 8), WHOLE], ("write", 0)))
        for writes, wanted in rows:
            self.check_step(SLOTS, plan, Step([Next(8, 8)], Work(), writes), wanted)
        rows = (([Next(8, 8)], None), ([Next(1, 8)], None), ([Next(16, 8)], ("write", 0)), ([Next(8, 4)], ("write", 0)),
                ([Next(8, 4), Next(4, 4)], ("write", 0)), ([Next(8, 8), Next(1, 1)], ("write", 1)), ([WHOLE], ("write", 0)))
        for writes, wanted in rows:
            self.check_step(SLOTS, SLOTS, Step([Next(8, 8)], Work(), writes), wanted, ahead=("w",))

    def test_doubles(self):
        first = Convention(WIDE, wholes=3)
        second = Convention(WIDE, wholes=1, doubles="split", fills={"d": Fill("zeros", 120)})
        zeros = Work(Fill("zeros", 128))
        rows = (([WHOLE, OTHER], zeros, [WHOLE, Next(8, 8)], None), ([OTHER, WHOLE], zeros, [WHOLE, Next(8, 8)], ("bit", 0)),
                ([WHOLE, WHOLE], zeros, [WHOLE, Next(8, 8)], ("bit", 64)), ([WHOLE], zeros, [WHOLE, Next(8, 8)], ("bit", 64)),
                ([WHOLE, OTHER], Work(), [WHOLE, Next(8, 8)], ("bit", 100)), ([WHOLE, OTHER], zeros, [WHOLE], ("write", 1)),
                ([WHOLE, OTHER], zeros, [Next(8, 8), WHOLE], ("write", 0)), ([WHOLE, OTHER], zeros, [WHOLE, WHOLE], ("write", 1)),
                ([WHOLE, OTHER], Work(Fill("zeros", 119)), [WHOLE, Next(8, 8)], ("bit", 119)),
                ([WHOLE, Register("whole", 2)], zeros, [WHOLE, Next(8, 8)], ("read", 1)))
        for reads, work, writes, wanted in rows:
            self.check_step(first, second, Step(reads, work, writes), wanted, "d")

    def test_bits(self):
        caller = Convention(BOOK, fills={"a": Fill("sign", 20)})
        for wanted_fill, work, wanted in ((Fill("sign", 20), Work(), None), (Fill("sign", 21), Work(), ("bit", 20)),
                                          (Fill("zeros", 9), Work(), ("bit", 8)), (Fill("zeros", 64), Work(), ("bit", 8)),
                                          (Fill("sign", 64), Work(Fill("sign", 64)), None),
                                          (Fill("sign", 64), Work(Fill("sign", 63)), ("bit", 63)),
                                          (Fill("sign", 40), Work(Fill("sign", 40), Fill("zeros", 9)), ("bit", 8)),
                                          (Fill("sign", 40), Work(Fill("zeros", 128), Fill("sign", 128)), None),
                                          (Fill("zeros", 40), Work(Fill("zeros", 30), Fill("sign", 5)), ("bit", 30)),
                                          (Fill(), Work(Fill("zeros", 128)), None)):
            callee = Convention(BOOK, fills={"a": wanted_fill})
            self.check_step(caller, callee, Step([Next(8, 8)], work, [Next(8, 8)]), wanted)
        # Bits that are not read are unknown, as the callee's garbage is.
        callee = Convention(BOOK, fills={"a": Fill("sign", 20)})
        self.check_step(caller, callee, Step([Next(8, 2)], Work(), [Next(8, 8)]), ("bit", 16))
        self.check_step(caller, callee, Step([Next(8, 2)], Work(Fill("sign", 20)), [Next(8, 8)]), None)
        self.check_step(caller, callee, Step([Next(8, 3)], Work(), [Next(8, 8)]), None)
        self.check_step(SLOTS, SLOTS, Step([Next(8, 7)], Work(), [Next(8, 8)]), ("bit", 56), "w")
        self.check_step(SLOTS, SLOTS, Step([Next(1, 1), Next(2, 6)], Work(), [Next(8, 8)]), ("bit", 8), "w")

    def test_unknown_highest_bits(self):
        callee = Convention(WIDE, fills={"d": Fill("sign", 128)})
        plan = Convention(WIDE, fills={"d": Fill("sign", 128)})
        self.check_step(plan, callee, Step([Next(16, 12)], Work(Fill("sign", 128)), [Next(16, 16)]), ("bit", 96), "d")
        self.check_step(plan, callee, Step([Next(16, 13)], Work(Fill("sign", 128)), [Next(16, 16)]), None, "d")
        self.check_step(plan, callee, Step([Next(16, 13)], Work(), [Next(16, 16)]), ("bit", 104), "d")
        self.check_step(plan, callee, Step([Next(16, 8), Next(1, 8)], Work(), [Next(16, 16)]), None, "d")

    def test_behind_wrong_steps(self):
        adapter = one_state(SLOTS, SLOTS, a=Step([Next(8, 8)], Work(), [Next(8, 4)]), w=Step([Next(4, 8)], Work(), [Next(4, 8)]))
        found = [fault(adapter, signature_of(letters)) for letters in ("a", "w", "aw", "waw", "wa", "a.", "")]
        self.assertEqual(found, [("write", 0), None, ("write", 0), ("write", 0), ("write", 0), None, None])
        reading = one_state(SLOTS, SLOTS, a=Step([Next(8, 16)], Work(), [Next(8, 8)]), w=COPY)
        found = [fault(reading, signature_of(letters)) for letters in ("a", "aw", "aww", ".aw")]
        self.assertEqual(found, [("read", 0), ("read", 0), ("read", 0), ("read", 0)])
        self.assertEqual([is_right(reading, signature_of(letters)) for letters in ("a", "aw", "w", "w.w", "")],
                         [False, False, True, True, True])
        self.assertEqual(entry(reading, signature_of("aa"))[3], 24 - 8)

    def test_fault_of_no_argument(self):
        adapter = one_state(SLOTS, SLOTS, a=Step([WHOLE], Work(), [WHOLE]), w=COPY)
        self.assertEqual([fault(adapter, signature_of(letters)) for letters in ("", ".", "a.", "w.")], [None] * 4)
        self.assertEqual([is_right(adapter, signature_of(letters)) for letters in ("", ".", "a.", "w.", ".a")],
                         [True, True, False, True, False])


class TableTest(RaisingTest):

    def check_adapter(self, adapter):
        reached, wrong = reached_by_hand(adapter)
        self.assertEqual(first_wrong(adapter), wrong)
        self.assertEqual(ways(adapter), sorted(reached.items()))
        self.assertEqual(table(adapter), sorted(reached) if wrong is None else None)
        self.assertIs(is_table(adapter, sorted(reached)), wrong is None)
        if wrong is not None:
            self.assertLessEqual(len(wrong), len(reached))
            self.assertFalse(is_right(adapter, wrong))
        return wrong is None

    def test_made_adapters(self):
        for first, second in list(product(SMALL_PLANS, SMALL_PLANS)):
            adapter = Adapter.made(first, second)
            self.assertTrue(self.check_adapter(adapter))
            self.assertTrue(self.check_adapter(adapter.merged()))

    def test_some_adapters(self):
        lengths = []
        for adapter in some_adapters(30):
            self.check_adapter(adapter)
            wrong = first_wrong(adapter)
            lengths.append(0 if wrong is None else len(wrong))
        self.assertGreater(len(set(lengths)), 3)

    def test_all_made_adapters(self):
        for first, second in list(product(PLANS, PLANS)) + list(product(WIDE_PLANS, WIDE_PLANS)):
            adapter = Adapter.made(first, second)
            self.assertIsNone(first_wrong(adapter))
            self.assertEqual(table(adapter), sorted(one for one, _ in ways(adapter)))

    def test_reading_pointers(self):
        late = Step([Next(8, 1)], Work(), [Next(8, 8)])
        adapter = one_state(SLOTS, SLOTS, a=late, w=COPY)
        self.assertEqual(sorted({one[3] for one in table(adapter)}), [-7, 0])
        self.assertEqual(entry(adapter, signature_of("wa"))[3], -7)
        catching_up = one_state(SLOTS, SLOTS, a=Step([Next(8, 3), Next(4, 1)], Work(), [Next(8, 8)]), w=COPY)
        self.assertEqual(sorted({one[3] for one in table(catching_up)}), [-3, 0])
        lost = one_state(SLOTS, SLOTS, a=Step([Next(1, 1)], Work(), [Next(8, 8)]), w=COPY)
        self.assertEqual((first_wrong(lost), fault(lost, signature_of("aa"))), (signature_of("aa"), ("read", 0)))

    def test_unusual_ways_to_be_right(self):
        signing = Convention(BOOK, fills={"a": Fill("sign", 32)})
        parted = Step([Next(8, 5), Next(1, 3)], Work(), [Next(8, 8)])
        for work in (Work(Fill("sign", 32)), Work(Fill("sign", 128)), Work(Fill("zeros", 100), Fill("sign", 32)),
                     Work(Fill("zeros", 20), Fill("sign", 20), Fill("sign", 40)), Work(Fill("sign", 40), Fill("sign", 9))):
            for reads in ([Next(8, 8)], [Next(8, 1)], [Next(8, 1), Next(1, 7)], [Next(8, 4), Next(2, 2)]):
                adapter = one_state(SLOTS, signing, a=Step(reads, work, [Next(8, 8)]), w=parted)
                self.assertTrue(self.check_adapter(adapter))
        wholes = Convention(BOOK, wholes=1, again=False)
        states = [{"a": Step([WHOLE, WHOLE], Work(), [WHOLE], 1), "w": Step([WHOLE, WHOLE], Work(), [WHOLE], 2)},
                  {"a": parted, "w": COPY}, {"a": COPY, "w": parted}]
        states[1] = {"a": Step([Next(8, 8)], Work(), [Next(8, 8)], 2), "w": Step([Next(8, 8)], Work(), [Next(8, 8)], 1)}
        states[2] = {"a": Step([Next(8, 8)], Work(), [Next(8, 8)], 1), "w": Step([Next(8, 8)], Work(), [Next(8, 8)], 2)}
        self.assertTrue(self.check_adapter(Adapter(wholes, wholes, states, [0, 2, 1])))

    def test_wrong_behind_the_mark_alone(self):
        bad = Step([WHOLE], Work(), [Next(8, 8)], 1)
        states = [{"a": COPY, "w": COPY}, {"a": bad, "w": Step([Next(8, 8)], Work(), [Next(8, 8)], 1)}]
        adapter = Adapter(SLOTS, SLOTS, states, [1, 1])
        self.assertEqual((first_wrong(adapter), table(adapter)), (signature_of(".a"), None))
        self.assertEqual(ways(adapter), sorted(reached_by_hand(adapter)[0].items()))
        # Where the mark came already, it leads nowhere.
        beyond = Adapter(SLOTS, SLOTS, [{"a": COPY, "w": COPY}, {"a": bad, "w": COPY}], [0, 1])
        self.assertIsNone(first_wrong(beyond))
        twice = Adapter(SLOTS, SLOTS, [states[0], {"a": Step([Next(8, 8)], Work(), [Next(8, 8)], 1),
                                                   "w": states[1]["w"]}, {"a": bad, "w": bad}], [1, 2, 2])
        self.assertIsNone(first_wrong(twice))

    def test_asked_again(self):
        """Answers do not depend on what was asked before, nor on whether adapters were made apart."""
        for one, other in zip(some_adapters(12), some_adapters(12)):
            for function in (first_wrong, table, ways, shown, table, first_wrong, ways):
                found = function(one)
                if isinstance(found, list):
                    found = list(found)
                    function(one).append(None)
                self.assertEqual(function(one), found)
                self.assertEqual(function(other), found)
            self.assertEqual(one.merged(), other.merged())
            self.assertEqual(one.merged(), one.merged())
            self.assertEqual(one, other)

    def test_long_ways(self):
        many = 200
        good = [Step([Next(8, 8)], Work(), [Next(8, 8)], (at + 1) % many) for at in range(many)]
        steps = [{"a": step, "w": COPY} for step in good]
        steps[many - 1] = {"a": Step([WHOLE], Work(), [Next(8, 8)]), "w": COPY}
        adapter = Adapter(SLOTS, SLOTS, steps, [0] * many)
        self.assertEqual((first_wrong(adapter), table(adapter)), (signature_of("a" * many), None))
        self.assertGreaterEqual(max(len(way) for _, way in ways(adapter)), many - 1)

    def test_lists_are_new(self):
        adapter = one_state(SLOTS, SLOTS, a=COPY, w=COPY)
        before = list(table(adapter))
        table(adapter).clear()
        ways(adapter).clear()
        self.assertEqual((table(adapter), [one for one, _ in ways(adapter)]), (before, before))
        self.assertEqual([type(part) for part in (before[0], before[0][0], before[0][2])], [tuple, tuple, int])


class LimitTest(RaisingTest):

    def adapter(self, many, transient, extra, wrong=False, detour=False):
        """A ring of states, reached by way of registers, and a tail with its own states, each of which adds entries."""
        book = Book(Kind("a", size=4), Kind("b", size=4))
        plan = Convention(book, wholes=transient, slot=4)
        tail = transient + many
        states = [self.state_of(Register("whole", at), at + 1, wrong) for at in range(transient)]
        states.extend([self.state_of(Next(4, 4), transient + (at + 1) % many, wrong) for at in range(many)])
        marks = [tail + at for at in range(transient)] + [tail + transient] * many
        states.extend([self.state_of(Register("whole", at), tail + at + 1, wrong) for at in range(transient)])
        states.extend([self.state_of(Next(4, 4), tail + transient + at + 1, wrong) for at in range(extra)])
        states.append(self.state_of(Next(4, 4), tail + transient + extra, wrong))
        if detour:
            # From the first mark on, two states more, of which only the second one adds an entry.
            marks[0] = len(states)
            states.append(self.state_of(Register("whole", 0), len(states) + 1, wrong))
            states.append(self.state_of(Next(4, 4), tail + transient + 1, wrong))
        return Adapter(plan, plan, states, marks + [0] * (len(states) - len(marks)))

    def state_of(self, place, behind, wrong):
        step = Step([place], Work(), [place], behind)
        bad = Step([Register("float", 3)], Work(), [place], behind)
        return {"a": step, "b": bad if wrong else step}

    def test_numbers_of_entries(self):
        for many, transient, extra in ((5, 0, 0), (241, 0, 1), (243, 1, 4), (247, 3, 0), (249, 2, 2)):
            adapter = self.adapter(many, transient, extra)
            by_hand = self.count(adapter)
            if by_hand <= 1000:
                self.assertEqual((len(table(adapter)), len(ways(adapter))), (by_hand, by_hand))
                self.assertIsNone(first_wrong(adapter))
            else:
                self.check_refused(adapter)

    def count(self, adapter):
        """How many entries are reached, if all steps are right."""
        book, found, level = adapter.book, {}, [(adapter.first.start(), 0)]
        while level:
            state, number = level.pop()
            if (state, number) in found:
                continue
            found[state, number] = True
            for letter in book.names() + ([] if state[4] else ["..."]):
                behind = adapter.mark(number) if letter == "..." else adapter.step(number, letter).next_state
                level.append((adapter.first.step(state, letter)[1], behind))
        return len(found)

    def test_one_more_than_a_thousand(self):
        adapters = [self.adapter(243, 1, 5), self.adapter(243, 1, 5, detour=True)]
        self.assertEqual([self.count(adapter) for adapter in adapters], [1000, 1001])
        self.assertEqual(len(table(adapters[0])), 1000)
        self.check_refused(adapters[1])

    def check_refused(self, adapter):
        for function in (first_wrong, table, ways, shown):
            self.check_raises(TooMany, LIMIT, function, adapter)
        for value in (None, [], ([0], [], [])):
            self.check_raises(TooMany, LIMIT, is_table, adapter, value)
            self.check_raises(TooMany, LIMIT, is_shown, adapter, value)
        self.assertTrue(is_right(adapter, Signature(adapter.book, "a", "a", "...")))
        self.assertIsNone(fault(adapter, Signature(adapter.book, "a")))

    def test_wrong_steps_do_not_matter(self):
        adapter = self.adapter(249, 3, 5, wrong=True)
        self.assertEqual(fault(adapter, Signature(adapter.book, "b")), ("read", 0))
        for function in (first_wrong, table, ways, shown):
            self.check_raises(TooMany, LIMIT, function, adapter)
        few = self.adapter(20, 3, 5, wrong=True)
        self.assertEqual((first_wrong(few), table(few)), (Signature(few.book, "b"), None))

    def test_more_than_400_joint_states(self):
        for first, second in (OVER, MANY):
            plain = {name: Step([Next(1, 1)], Work(), [Next(1, 1)]) for name in first.book.names()}
            adapter = Adapter(first, second, [plain], [0])
            self.assertEqual(first_wrong(adapter), Signature(first.book, "a"))
            self.assertEqual(len(ways(adapter)), 2)

    def test_the_longest_signatures(self):
        adapter = self.adapter(247, 3, 0)
        signature = Signature(adapter.book, *["a"] * 600, "...", *["b"] * 399)
        self.assertTrue(is_right(adapter, signature))
        self.assertEqual(entry(adapter, signature), entry_by_hand(adapter, signature))
        self.assertIn(entry(adapter, signature), table(adapter))


class ShownTest(RaisingTest):

    def check_shown(self, adapter):
        """What is shown, if there is something to show, is really shown by a run."""
        signature = first_wrong(adapter)
        found = shown(adapter)
        if signature is None or fault(adapter, signature)[0] != "bit":
            self.assertIsNone(found)
            self.assertFalse(is_shown(adapter, ([0] * 3, [255], [255])))
            return False
        self.assertEqual([type(part) for part in (found, *found)], [tuple, list, list, list])
        values, garbage, other = found
        frame = adapter(signature, call(adapter.first, signature, values, garbage), other)
        last = len(signature.arguments()) - 1
        self.assertEqual(first_broken(adapter.second, signature, frame, values), (last, fault(adapter, signature)[1]))
        self.assertIs(is_shown(adapter, found), True)
        self.assertIs(is_shown(adapter, tuple(tuple(part) for part in found)), True)
        return True

    def test_some_adapters(self):
        found = [self.check_shown(adapter) for adapter in some_adapters(60)]
        self.assertGreater(found.count(True), 2)
        self.assertGreater(found.count(False), 5)

    def test_kinds_of_wrong_bits(self):
        caller = Convention(BOOK, fills={"a": Fill("sign", 20), "w": Fill("zeros", 64)})
        zeros, signs = caller.changed(fills={"a": Fill("zeros", 20)}), caller.changed(fills={"a": Fill("sign", 30)})
        rows = ((zeros, [Next(8, 8)], Work(), 8), (signs, [Next(8, 8)], Work(), 20), (signs, [Next(8, 1)], Work(), 8),
                (signs, [Next(8, 8)], Work(Fill("zeros", 20)), 8), (signs, [Next(8, 3)], Work(), 20),
                (signs, [Next(8, 8)], Work(Fill("zeros", 30), Fill("sign", 10)), 10), (signs, [Next(1, 1)], Work(Fill("sign", 29)), 29),
                (signs, [Next(2, 2), Next(4, 4)], Work(), 16), (caller, [Next(8, 8)], Work(Fill("zeros", 10)), 8))
        for second, reads, work, bit in rows:
            adapter = one_state(caller, second, a=Step(reads, work, [Next(8, 8)]), w=COPY)
            self.assertEqual(fault(adapter, signature_of("a")), ("bit", bit))
            self.assertTrue(self.check_shown(adapter))
        plan = Convention(WIDE, wholes=2, fills={"d": Fill("zeros", 128)})
        for reads, bit in (([OTHER, WHOLE], 0), ([WHOLE, WHOLE], 64), ([WHOLE], 64), ([OTHER], 0)):
            made = Adapter.made(plan, plan)
            states = [{name: made.step(state, name) for name in WIDE.names()} for state in range(len(made))]
            states[0]["d"] = Step(reads, Work(), [WHOLE, OTHER], states[0]["d"].next_state)
            adapter = Adapter(plan, plan, states, [made.mark(state) for state in range(len(made))])
            self.assertEqual(fault(adapter, signature_of("d", WIDE)), ("bit", bit))
            self.assertTrue(self.check_shown(adapter))

    def test_garbage_in_the_place_of_the_lowest_bit(self):
        book = Book(Kind("x", size=4), Kind("a", size=8, width=8, align=4))
        plan = Convention(book, slot=4)
        lower = Step([Next(8, 4)], Work(), [Next(4, 8)])
        adapter = one_state(plan, plan, x=Step([Next(4, 4)], Work(), [Next(4, 4)]), a=lower)
        signature = Signature(book, "x", "a")
        self.assertEqual((first_wrong(adapter), fault(adapter, signature)), (signature, ("bit", 0)))
        self.assertEqual(fault_by_hand(adapter, signature), ("bit", 0))
        self.assertTrue(self.check_shown(adapter))

    def test_values_that_show(self):
        plan = Convention(BOOK, fills={"a": Fill("sign", 10)})
        adapter = one_state(plan, plan, a=Step([Next(8, 8)], Work(Fill("zeros", 9)), [Next(8, 8)]), w=COPY)
        for value in range(256):
            for garbage in ([], [255]):
                self.assertIs(is_shown(adapter, ([value], garbage, [])), value >= 128)
        unread = one_state(plan, plan, a=Step([Next(8, 1)], Work(), [Next(8, 8)]), w=COPY)
        rows = (([0], [255], [], False), ([0], [], [1], True), ([255], [], [1], True), ([255], [255], [255], False),
                ([128], [], [0], True), ([127], [], [0], False), ([5], [9], [0, 2, 8], True), ([5], [9], [1] * 49 + [4], False))
        for values, garbage, other, wanted in rows:
            self.assertIs(is_shown(unread, (values, garbage, other)), wanted, (values, garbage, other))

    def test_nothing_to_show(self):
        right = one_state(SLOTS, SLOTS, a=COPY, w=COPY)
        reading = one_state(SLOTS, SLOTS, a=Step([WHOLE], Work(), [Next(8, 8)]), w=COPY)
        writing = one_state(SLOTS, SLOTS, a=Step([Next(8, 8)], Work(), [WHOLE]), w=COPY)
        for adapter in (right, reading, writing):
            self.assertIsNone(shown(adapter))
            for value in (([0], [255], [255]), ([], [], []), None, ([255], [], [])):
                self.assertIs(is_shown(adapter, value), False)

    def test_other_values(self):
        plan = Convention(BOOK, fills={"a": Fill("sign", 10)})
        adapter = one_state(SLOTS, plan, a=COPY, w=COPY)
        right = ([0], [255], [255])
        self.assertIs(is_shown(adapter, value=right), True)
        none = [*NO_COUNTS, 0, "abc", list(right), right[:2], right + ([],), ([0, 0], [255], [255]), ([], [255], [255]),
                ([256], [255], [255]), ([-1], [255], [255]), ([True], [255], [255]), ([False], [255], [255]),
                ([None], [255], [255]), (0, [255], [255]), ("0", [255], [255]), ({0}, [255], [255]), ({0: 0}, [255], [255]),
                ([0], [256], [255]), ([0], [255], [True]), ([0], [255, None], [255]), ([0], 255, [255]),
                ([0], b"a", [255]), ([0], [255], None), ([0], [255], "a"), ([0], {255}, [255]), (None, None, None)]
        for value in none:
            self.assertIs(is_shown(adapter, value), False, value)
        values, garbage = [0], [255]
        is_shown(adapter, (values, garbage, garbage))
        self.assertEqual((values, garbage), ([0], [255]))


class IsTableTest(RaisingTest):

    def test_tables(self):
        adapter = one_state(SLOTS, PLANS[1], a=COPY, w=COPY)
        self.assertIs(is_table(adapter, []), False)
        right = Adapter.made(PLANS[1], PLANS[2])
        wanted = table(right)
        self.assertIs(is_table(adapter=right, value=list(wanted)), True)
        self.assertIs(is_table(right, tuple(wanted)), True)
        self.assertEqual(wanted, table(right))
        for at in (0, 1, len(wanted) - 1):
            one = wanted[at]
            for other in ([*one], one[:3], one + (0,), (one[0], one[1], one[2], one[3] + 1), (one[0], one[1], -1, one[3]),
                          (list(one[0]), *one[1:]), (one[0], one[0][:5], *one[2:]), None, 5, "abcd", wanted[at - 1],
                          (one[0], one[1], one[2], False), (one[0], one[1], one[2], None),
                          (tuple(bool(number) for number in one[0]), *one[1:]), (one[1], one[0], one[2], one[3] - 1)):
                self.assertIs(is_table(right, wanted[:at] + [other] + wanted[at + 1:]), False, other)
        for value in (*NO_COUNTS, 0, wanted[1:], wanted[:-1], wanted[::-1], wanted + wanted[-1:], {one: 1 for one in wanted},
                      right, [wanted]):
            self.assertIs(is_table(right, value), False)

    def test_no_tables(self):
        wrong = one_state(SLOTS, SLOTS, a=Step([WHOLE], Work(), [Next(8, 8)]), w=COPY)
        for value in (None, [], [one for one, _ in ways(wrong)]):
            self.assertIs(is_table(wrong, value), False)


class WrongInputTest(RaisingTest):

    def test_adapters(self):
        for value in (*NO_COUNTS, 0, SLOTS, BOOK, COPY):
            for function in (first_wrong, table, ways, shown):
                self.check_raises(InvalidAdapter, {"value": value}, function, value)
            for function in (entry, fault, is_right):
                self.check_raises(InvalidAdapter, {"value": value}, function, value, 5)
                self.check_raises(InvalidAdapter, {"value": value}, function, signature=signature_of("a"), adapter=value)
            for function in (is_table, is_shown):
                self.check_raises(InvalidAdapter, {"value": value}, function, value, None)

    def test_signatures(self):
        adapter = one_state(SLOTS, SLOTS, a=COPY, w=COPY)
        for function in (entry, fault, is_right):
            for value in (*NO_STRINGS, "a", BOOK, adapter):
                self.check_raises(InvalidSignature, {"value": value}, function, adapter, value)
            for letters in ("", "a", "."):
                self.check_raises(OtherBook, {"one": BOOK, "other": ALIEN}, function, adapter, signature_of(letters, ALIEN))

    def test_nothing_changes(self):
        adapter = one_state(SLOTS, PLANS[6], a=COPY, w=COPY)
        again = one_state(SLOTS, PLANS[6], a=COPY, w=COPY)
        for function in (first_wrong, table, ways, shown):
            self.assertEqual(function(adapter), function(adapter))
        self.assertEqual(adapter, again)
        self.assertTrue(keeps(PLANS[6], Signature(BOOK), call(SLOTS, Signature(BOOK), []), []))
