"""The program as a whole: from texts to calls that arrive, whatever the garbage is, and papers for all of it [4]."""

from tests.helpers import OVER, PLANS, SORT_PLANS, Dice, RaisingTest
from tests.test_leads import random_pairs
from unlikecalls.adapters import Adapter
from unlikecalls.calls import call, first_broken, keeps, read_values
from unlikecalls.desk import Desk
from unlikecalls.errors import CallError, LimitError, MissingError, NoRoom, StateError, TooMany
from unlikecalls.fills import Work
from unlikecalls.frames import Frame
from unlikecalls.judge import KINDS, is_paper, paper_of
from unlikecalls.judging import first_wrong, is_right, is_shown, is_table, shown, table
from unlikecalls.leads import greatest_lead, is_heights, is_rising, lead_signature, least_room, rising_ring
from unlikecalls.orders import find_order, is_order, move_all
from unlikecalls.passes import held, pass_backward, pass_forward
from unlikecalls.sides import copies_do
from unlikecalls.signatures import Signature
from unlikecalls.steps import Step
from unlikecalls.tails import is_tail_fault, tail_fault, tail_shift
from unlikecalls.texts import read_convention, text_of


def cases(count, seed):
    """Conventions as they are read from their texts, with a signature, values and garbage."""
    dice = Dice(seed)
    for first, second in random_pairs(count, seed):
        first, second = read_convention(text_of(first)), read_convention(text_of(second))
        signature = dice.signature(first.book, dice.roll(9))
        values = [dice.roll(2 ** 31) ** 4 % 2 ** first.book.kind(name).width for name in signature.arguments()]
        garbage = [[dice.roll(256) for _ in range(dice.roll(5))] for _ in range(2)]
        yield first, second, signature, values, garbage


class ArrivingTest(RaisingTest):

    def check_arrived(self, second, signature, frame, values):
        self.assertEqual(read_values(second, signature, frame), values)
        self.assertIsNone(first_broken(second, signature, frame, values))
        self.assertIs(keeps(second, signature, frame, values), True)

    def test_by_adapters(self):
        for first, second, signature, values, garbage in cases(60, 100):
            made = Adapter.made(first, second)
            frame = call(first, signature, values, garbage[0])
            for adapter in (made, made.merged()):
                self.check_arrived(second, signature, adapter(signature, frame, garbage[1]), values)
                self.assertIs(is_right(adapter, signature), True)

    def test_by_way_of_another_convention(self):
        for first, second, signature, values, garbage in cases(20, 101):
            to, back = Adapter.made(first, second).merged(), Adapter.made(second, first).merged()
            there = to(signature, call(first, signature, values, garbage[0]), garbage[1])
            self.check_arrived(first, signature, back(signature, there, garbage[0]), values)
            try:
                whole = to.then(back)
            except TooMany as error:
                self.assertEqual(vars(error), {"what": "states", "limit": 400})
                continue
            found = whole(signature, call(first, signature, values, garbage[0]), garbage[1])
            self.check_arrived(first, signature, found, values)
            self.assertIsNone(first_wrong(whole))

    def test_in_place(self):
        for first, second, signature, values, garbage in cases(60, 102):
            frame = call(first, signature, values, garbage[0])
            forward = pass_forward(first, second, signature, frame, max(held(first, second, signature)))
            backward = pass_backward(first, second, signature, frame, max(held(first, second, signature, backward=True)))
            order = find_order(first, second, signature)
            self.assertIs(is_order(first, second, signature, order), True)
            for found in (forward, backward, move_all(first, second, signature, frame, order)):
                self.assertEqual(found, forward)
                self.check_arrived(second, signature, found, values)

    def test_with_the_room_that_is_told(self):
        found = {True: 0, False: 0}
        for first, second, signature, values, garbage in cases(60, 103):
            frame = call(first, signature, values, garbage[0])
            for function, backward in ((pass_forward, False), (pass_backward, True)):
                room = least_room(first, second, backward=backward)
                found[room is None] += 1
                if room is not None:
                    self.check_arrived(second, signature, function(first, second, signature, frame, room), values)
            room = least_room(first, second)
            if room is None:
                way, ring = rising_ring(first, second)
                self.assertIs(is_rising(first, second, (way, ring)), True)
                many = (1000 - len(way)) // len(ring)
                worst, room = way + ring * many, 2 * many
            else:
                worst, room = lead_signature(first, second), room - 1
            if room >= 0:
                self.assertRaises(NoRoom, pass_forward, first, second, worst, Frame(), room)
        self.assertGreater(min(found.values()), 10)

    def test_plain_copies(self):
        """Where copies are enough, an adapter without works is right."""
        for first, second in list(random_pairs(40, 104)) + [(plan, plan) for plan in SORT_PLANS]:
            made = Adapter.made(first, second)
            names = first.book.names()
            states = [{name: Step(made.step(state, name).reads(), Work(), made.step(state, name).writes(), made.step(state, name).next_state)
                       for name in names} for state in range(len(made))]
            plain = Adapter(first, second, states, [made.mark(state) for state in range(len(made))])
            self.assertIs(first_wrong(plain) is None, copies_do(first, second))
            if first_wrong(plain) is not None:
                self.assertIs(is_shown(plain, shown(plain)), True)

    def test_blind_adapters(self):
        """What a blind adapter moves by the shift, beyond what it knows, is what the callee looks for."""
        count = 0
        for first, second, signature, values, garbage in cases(60, 105):
            second = first.changed(home=second.home, slot=second.slot)
            if not signature.has_mark or tail_fault(first, second) is not None:
                continue
            named, shift = signature.named(), tail_shift(first, second, signature)
            begin, frame = (first >> named).end, call(first, signature, values, garbage[0])
            found = pass_forward(first, second, named, frame, 10 ** 6)
            area = found.area() + [0] * (begin + shift - found.size) + frame.area()[begin:]
            arrived = Frame(area, {**frame.registers(), **found.registers()})
            self.check_arrived(second, signature, arrived, values)
            count += 1
        self.assertGreater(count, 3)


class PapersTest(RaisingTest):

    def test_either_a_table_or_a_wrong_signature(self):
        dice, found = Dice(3), {True: 0, False: 0}
        for first, second, _, _, _ in cases(20, 106):
            made = Adapter.made(first, second).merged()
            any_one = dice.adapter(first, second, 1 + dice.roll(3))
            for adapter in (made, any_one):
                right, wrong = table(adapter), first_wrong(adapter)
                self.assertNotEqual(right is None, wrong is None)
                self.assertIs(is_table(adapter, right), wrong is None)
                papers = [paper_of((word, adapter)) for word in ("right", "wrong")]
                self.assertEqual([paper == "none" for paper in papers], [wrong is not None, wrong is None])
                self.assertEqual([is_paper((word, adapter), paper) for word, paper in zip(("right", "wrong"), papers)],
                                 [wrong is None, wrong is not None])
                found[wrong is None] += 1
        self.assertEqual(found, {True: 20, False: 20})

    def test_just_one_of_each_two(self):
        """Of two claims of which just one can be true just one has a paper."""
        for first, second, _, _, _ in cases(40, 107):
            room = greatest_lead(first, second)
            for number in (0, 7, max(0, room or 0), max(0, (room or 0) - 1)):
                pairs = ((("alike", first, second), ("unlike", first, second)),
                         (("room", first, second, number), ("narrow", first, second, number)))
                for claims in pairs:
                    papers = [paper_of(claim) for claim in claims]
                    self.assertEqual([paper == "none" for paper in papers].count(True), 1)
                    self.assertEqual([is_paper(claim, paper) for claim, paper in zip(claims, papers)],
                                     [paper != "none" for paper in papers])
            rising = paper_of(("rising", first, second))
            self.assertIs(rising == "none", room is not None)
            if room is not None:
                self.assertIs(is_heights(first, second, paper_of(("room", first, second, max(0, room)))), True)
            fault = tail_fault(first, second)
            self.assertIs(is_tail_fault(first, second, fault), fault is not None)
        self.assertEqual(len(KINDS), 7)

    def test_on_a_desk(self):
        for first, second, _, _, _ in cases(15, 108):
            desk = Desk(first.book)
            desk["one"], desk["two"] = read_convention(text_of(first)), read_convention(text_of(second))
            room, back = least_room(first, second), least_room(first, second, backward=True)
            found = desk.do_all("make m one two", "merge m m", "verdict m", "room one two", "back one two", "undo", "undo")
            self.assertEqual(found, ["done", "done", "right", "none" if room is None else str(room), "none" if back is None else str(back),
                                     "done", "done"])
            self.assertEqual(desk.names(), ["one", "two"])


class NothingChangesTest(RaisingTest):

    def test_questions(self):
        """What is asked changes nothing, and is answered alike when it is asked again."""
        for first, second, signature, values, garbage in cases(10, 109):
            texts, frame = (text_of(first), text_of(second)), call(first, signature, values, garbage[0])
            before, row = frame.copy(), list(values)
            answers = [self.ask(first, second, signature, frame, values, garbage) for _ in range(2)]
            self.assertEqual(answers[0], answers[1])
            self.assertEqual((texts, before, row), ((text_of(first), text_of(second)), frame, values))

    def ask(self, first, second, signature, frame, values, garbage):
        adapter = Adapter.made(first, second)
        order = find_order(first, second, signature)
        return [adapter(signature, frame, garbage[1]), table(adapter), least_room(first, second), rising_ring(first, second), order,
                pass_forward(first, second, signature, frame, 10 ** 6), tail_fault(first, second), adapter.merged(),
                move_all(first, second, signature, frame, order), paper_of(("narrow", first, second, 3)),
                first_broken(first, signature, frame, values)]

    def test_errors_are_own_ones(self):
        """Errors of the program are caught by the four classes in front of them."""
        for error, action in ((CallError, lambda: read_convention(5)), (MissingError, lambda: Desk(PLANS[0].book).undo()),
                              (StateError, lambda: pass_forward(PLANS[2], PLANS[0], Signature(PLANS[0].book, "a"), Frame(), 0)),
                              (LimitError, lambda: least_room(*OVER))):
            self.assertRaises(error, action)
