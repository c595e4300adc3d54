"""Steps of adapters [62]."""

from itertools import product

from tests.helpers import NO_COUNTS, RaisingTest
from unlikecalls.errors import InvalidStep
from unlikecalls.fills import Fill, Work
from unlikecalls.places import Next, Place, Register, Slots
from unlikecalls.steps import Step

WHOLE, FLOAT = Register("whole", 0), Register("float", 7)
WORK = Work(Fill("sign", 32))
NO_PLACES = (True, None, 0, "", "ab", b"a", {}, {WHOLE.number: 1}, WHOLE, Next(8, 8), [], (), [WHOLE] * 3, [WHOLE, None],
             [None], [Slots(0, 8)], [WHOLE, Slots(0, 8)], [Place()], [["whole", 0]], ["Next(8, 8)"], object())
NO_WORKS = (True, None, 0, "", [], [Fill("sign", 32)], Fill("sign", 32), (), {}, object())


class StepTest(RaisingTest):

    def test_parts(self):
        step = Step([WHOLE, Next(4, 8)], WORK, (Next(8, 16),), 5)
        self.assertEqual((step.reads(), step.work, step.writes(), step.next_state),
                         ([WHOLE, Next(4, 8)], WORK, [Next(8, 16)], 5))
        self.assertEqual(Step([WHOLE], Work(), [WHOLE]).next_state, 0)
        self.assertEqual(Step(next_state=10 ** 40, writes=[FLOAT], work=WORK, reads=(WHOLE,)).next_state, 10 ** 40)
        self.check_read_only(step, ("work", "next_state"))

    def test_lists_are_copied(self):
        reads, writes = [WHOLE], [FLOAT]
        step = Step(reads, WORK, writes)
        reads.append(3)
        writes.clear()
        step.reads().clear()
        step.writes().append(1)
        self.assertEqual((step.reads(), step.writes()), ([WHOLE], [FLOAT]))
        self.assertEqual([type(step.reads()), type(Step((WHOLE,), WORK, (WHOLE,)).writes())], [list, list])

    def test_one_wrong_part(self):
        for value in NO_PLACES:
            self.check_raises(InvalidStep, {"part": "reads"}, Step, value, WORK, [WHOLE], 0)
            self.check_raises(InvalidStep, {"part": "writes"}, Step, [WHOLE], WORK, value, 0)
        for value in NO_WORKS:
            self.check_raises(InvalidStep, {"part": "work"}, Step, [WHOLE], value, [WHOLE])
        for value in NO_COUNTS:
            self.check_raises(InvalidStep, {"part": "next"}, Step, [WHOLE], WORK, [WHOLE], value)

    def test_several_wrong_parts(self):
        right = {"reads": [WHOLE], "work": WORK, "writes": [FLOAT], "next_state": 3}
        parts = {"reads": "reads", "work": "work", "writes": "writes", "next_state": "next"}
        for choice in product((True, False), repeat=4):
            wrong = [name for name, is_wrong in zip(parts, choice) if is_wrong]
            given = {name: (-1 if name in wrong else right[name]) for name in parts}
            if wrong:
                self.check_raises(InvalidStep, {"part": parts[wrong[0]]}, Step, **given)
                self.check_raises(InvalidStep, {"part": parts[wrong[0]]}, Step, *given.values())

    def test_equality(self):
        steps = [Step([WHOLE], WORK, [FLOAT]), Step([FLOAT], WORK, [FLOAT]), Step([WHOLE], WORK, [WHOLE]),
                 Step([WHOLE], Work(), [FLOAT]), Step([WHOLE], WORK, [FLOAT], 1), Step([WHOLE, FLOAT], WORK, [FLOAT]),
                 Step([WHOLE], WORK, [FLOAT, FLOAT]), Step([WHOLE], Work(Fill("sign", 9), Fill("sign", 32)), [FLOAT]),
                 Step([Next(8, 8)], WORK, [FLOAT]), Step([Next(4, 8)], WORK, [FLOAT])]
        self.check_equal_alone(steps, (WORK, WHOLE))
        self.assertEqual(Step((WHOLE,), Work(Fill("sign", 32)), (FLOAT,)), steps[0])

    def test_is_like(self):
        one = Step([WHOLE], Work(Fill("sign", 9), Fill("sign", 32)), [FLOAT], 3)
        self.assertIs(one.is_like(Step([WHOLE], WORK, [FLOAT])), True)
        self.assertIs(one.is_like(other=one), True)
        others = [Step([FLOAT], WORK, [FLOAT]), Step([WHOLE], WORK, [WHOLE]), Step([WHOLE], Work(), [FLOAT]),
                  Step([WHOLE, WHOLE], WORK, [FLOAT]), Step([WHOLE], Work(Fill("sign", 33)), [FLOAT], 3),
                  Step([WHOLE], Work(Fill("zeros", 32)), [FLOAT], 3)]
        for other in others:
            self.assertIs(one.is_like(other), False)
            self.assertIs(other.is_like(one), False)

    def test_is_like_refuses(self):
        step = Step([WHOLE], WORK, [FLOAT])
        for value in (*NO_COUNTS, 0, WORK, WHOLE):
            self.check_raises(InvalidStep, {"part": None}, step.is_like, value)
