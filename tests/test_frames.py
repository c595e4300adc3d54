"""Frames [41], and actions that are guarded."""

from tests.helpers import NO_COUNTS, RaisingTest
from unlikecalls.errors import InvalidBits, InvalidBytes, InvalidFrame, InvalidNumber, InvalidPlace
from unlikecalls.frames import Frame, guarded
from unlikecalls.places import Next, Place, Register, Slots

GREATEST = 2 ** 64 - 1
WHOLE, FLOAT = Register("whole", 0), Register("float", 7)
NO_LISTS = (True, None, 0, 1, "", "ab", b"ab", {}, {0: 1}, {1, 2}, object())
NO_BYTES = (True, False, None, -1, 256, 10 ** 40, "1", "", b"a", [1], (1,), {}, object())
NO_PLACES = (True, False, None, -1, "a", "", b"a", [], (), ("whole", 0), {}, Place(), Next(8, 8), object())


def content(frame):
    return frame.area(), frame.registers(), frame.size


class MakingTest(RaisingTest):

    def test_content(self):
        self.assertEqual(content(Frame()), ([], {}, 0))
        self.assertEqual(content(Frame((1, 255))), ([1, 255], {}, 2))
        registers = {("whole", 7): 5, ("float", 0): GREATEST, ("whole", 0): 1, ("whole", 1): 0}
        frame = Frame(area=[0, 7], registers=registers)
        wanted = {("float", 0): GREATEST, ("whole", 0): 1, ("whole", 7): 5}
        self.assertEqual(content(frame), ([0, 7], wanted, 2))
        self.assertEqual(list(frame.registers()), list(wanted))
        self.assertEqual((frame[WHOLE], frame[FLOAT], frame[1], frame[2]), (1, 0, 7, 0))

    def test_wrong_areas(self):
        for value in NO_LISTS:
            self.check_raises(InvalidBytes, {"position": None}, Frame, value)
            self.check_raises(InvalidBytes, {"position": None}, Frame, registers=5, area=value)
        for value in NO_BYTES:
            self.check_raises(InvalidBytes, {"position": 0}, Frame, [value])
            self.check_raises(InvalidBytes, {"position": 2}, Frame, (0, 255, value, -1), {"a": -1})

    def test_wrong_registers(self):
        for value in (True, False, 0, 1, "", "a", [], [("whole", 0)], (), {("whole", 0)}, WHOLE, object()):
            self.check_raises(InvalidPlace, {"value": value}, Frame, (), value)
        keys = ("whole", 0, True, None, (), ("whole",), ("whole", 0, 0), (0, "whole"), ("Whole", 0), ("whole", 8),
                ("whole", -1), ("whole", True), ("whole", "0"), ("whole", None), (None, 0), (("whole", 0), 1))
        for key in keys:
            self.check_raises(InvalidPlace, {"value": key}, Frame, (), {key: 0})
            self.check_raises(InvalidPlace, {"value": key}, Frame, (), {("whole", 0): -1, key: -2, "b": 0})

    def test_wrong_numbers_of_registers(self):
        for value in (*NO_COUNTS, GREATEST + 1, 10 ** 49):
            self.check_raises(InvalidNumber, {"value": value}, Frame, (), {("float", 0): value})
            registers = {("whole", 1): GREATEST, ("whole", 0): value, ("float", 0): -3}
            self.check_raises(InvalidNumber, {"value": value}, Frame, [1], registers)

    def test_copies(self):
        area, registers = [1, 2], {("whole", 0): 3}
        frame = Frame(area, registers)
        other = frame.copy()
        area.append(9)
        registers[("whole", 1)] = 4
        frame.area().append(9)
        frame.registers()[("whole", 0)] = 7
        frame.registers().clear()
        self.assertEqual(content(frame), ([1, 2], {("whole", 0): 3}, 2))
        other[0], other[WHOLE], other.size = 8, 0, 1
        self.assertEqual(content(frame), ([1, 2], {("whole", 0): 3}, 2))
        self.assertEqual(content(other), ([8], {}, 1))
        frame[1] = 5
        self.assertEqual(content(other), ([8], {}, 1))

    def test_equality(self):
        frames = [Frame(), Frame([0]), Frame([1]), Frame([0, 0]), Frame([], {("whole", 0): 1}),
                  Frame([], {("float", 0): 1}), Frame([], {("whole", 0): 2}), Frame([1], {("whole", 0): 1})]
        self.check_equal_alone(frames, ([0], {("whole", 0): 1}))
        self.assertEqual(Frame([1], {("whole", 0): 0, ("float", 2): 3}), Frame((1,), {("float", 2): 3}))
        one, other = Frame([3]), Frame([3])
        one[WHOLE] = 5
        self.assertNotEqual(one, other)
        one[WHOLE] = 0
        self.assertEqual(one, other)

    def test_frames_are_not_iterated_over(self):
        with self.assertRaises(TypeError):
            list(Frame([1, 2]))


class ChangingTest(RaisingTest):

    def test_items(self):
        frame = Frame([1, 2, 3])
        frame[0], frame[2] = 255, 0
        frame[WHOLE], frame[FLOAT] = GREATEST, 1
        self.assertEqual(content(frame), ([255, 2, 0], {("float", 7): 1, ("whole", 0): GREATEST}, 3))
        frame[WHOLE] = 0
        self.assertEqual(content(frame), ([255, 2, 0], {("float", 7): 1}, 3))
        self.assertEqual([frame[0], frame[3], frame[10 ** 40], frame[WHOLE]], [255, 0, 0, 0])

    def test_wrong_items(self):
        frame = Frame([1, 2, 3], {("whole", 0): 4})

        def set_item(place, value):
            frame[place] = value

        for place in NO_PLACES + (Slots(0, 1),):
            self.check_raises(InvalidPlace, {"value": place}, lambda place: frame[place], place)
            self.check_raises(InvalidPlace, {"value": place}, set_item, place, 1)
            self.check_raises(InvalidPlace, {"value": place}, set_item, place, -1)
        for place in (3, 4, 10 ** 40):
            self.check_raises(InvalidPlace, {"value": place}, set_item, place, 1)
            self.check_raises(InvalidPlace, {"value": place}, set_item, place, 256)
        for value in NO_BYTES:
            self.check_raises(InvalidNumber, {"value": value}, set_item, 0, value)
        for value in (*NO_COUNTS, GREATEST + 1):
            self.check_raises(InvalidNumber, {"value": value}, set_item, WHOLE, value)
        self.assertEqual(content(frame), ([1, 2, 3], {("whole", 0): 4}, 3))

    def test_size(self):
        frame = Frame([1, 2, 3], {("whole", 0): 4})
        frame.size = 5
        self.assertEqual(frame.area(), [1, 2, 3, 0, 0])
        frame.size = 2
        self.assertEqual(frame.area(), [1, 2])
        frame.resize(3)
        self.assertEqual(frame.area(), [1, 2, 0])
        frame.resize(size=3)
        self.assertEqual(frame.area(), [1, 2, 0])
        frame.size += 1
        self.assertEqual(content(frame), ([1, 2, 0, 0], {("whole", 0): 4}, 4))
        frame.size = 0
        self.assertEqual(content(frame), ([], {("whole", 0): 4}, 0))
        frame.size = 20000
        frame[19999] = 8
        self.assertEqual((frame.size, sum(frame.area()), frame[19999], frame[20000]), (20000, 8, 8, 0))

    def test_wrong_sizes(self):
        frame = Frame([1, 2, 3])
        for value in (*NO_COUNTS, 20001, 10 ** 40):
            self.check_raises(InvalidNumber, {"value": value}, frame.resize, value)
            self.check_raises(InvalidNumber, {"value": value}, setattr, frame, "size", value)
        self.assertEqual(content(frame), ([1, 2, 3], {}, 3))


class BitsTest(RaisingTest):

    def test_bits_at(self):
        frame = Frame([1, 128, 255], {("whole", 0): 2 ** 63 + 5})
        self.assertEqual(frame.bits_at(Slots(0, 2)), [1] + [0] * 14 + [1])
        self.assertEqual(frame.bits_at(Slots(2, 3)), [1] * 8 + [0] * 16)
        self.assertEqual(frame.bits_at(Slots(10 ** 40, 16)), [0] * 128)
        self.assertEqual(frame.bits_at(place=WHOLE), [1, 0, 1] + [0] * 60 + [1])
        self.assertEqual(frame.bits_at(FLOAT), [0] * 64)
        self.assertEqual(content(frame), ([1, 128, 255], {("whole", 0): 2 ** 63 + 5}, 3))
        frame.bits_at(WHOLE).clear()
        self.assertEqual(len(frame.bits_at(WHOLE)), 64)

    def test_put(self):
        frame = Frame([0, 255, 0, 9])
        frame.put(Slots(0, 3), [1, None, 1, 0, 0, 0, 0, 1] + [None] * 4 + [0, 0, None, 0])
        self.assertEqual(frame.area(), [133, 79, 0, 9])
        frame.put(place=Slots(3, 1), bits=(None, 1, None, None, None, None, None, 1))
        self.assertEqual(frame.area(), [133, 79, 0, 139])
        frame.put(Slots(0, 4), [])
        frame.put(WHOLE, [None] * 64)
        self.assertEqual(content(frame), ([133, 79, 0, 139], {}, 4))
        frame.put(WHOLE, [None, 1] + [None] * 61 + [1])
        frame.put(FLOAT, [1] * 64)
        frame.put(WHOLE, [1, 0])
        self.assertEqual(frame.registers(), {("float", 7): GREATEST, ("whole", 0): 2 ** 63 + 1})
        frame.put(FLOAT, [0] * 64)
        self.assertEqual(frame.registers(), {("whole", 0): 2 ** 63 + 1})

    def test_put_and_read_again(self):
        bits = [at * at % 7 % 2 for at in range(128)]
        for place in (WHOLE, FLOAT, Slots(0, 1), Slots(3, 5), Slots(4, 16)):
            frame = Frame([170] * 20, {("whole", 0): 12345678901234567890})
            before = frame.copy()
            frame.put(place, bits[:place.bits])
            self.assertEqual(frame.bits_at(place), bits[:place.bits])
            frame.put(place, before.bits_at(place))
            self.assertEqual(frame, before)

    def test_wrong_places(self):
        frame = Frame([1, 2], {("whole", 0): 3})
        for place in NO_PLACES + (0, 1):
            self.check_raises(InvalidPlace, {"value": place}, frame.bits_at, place)
            self.check_raises(InvalidPlace, {"value": place}, frame.put, place, [1])
            self.check_raises(InvalidPlace, {"value": place}, frame.put, place, "bits")
        for place in (Slots(0, 3), Slots(1, 2), Slots(2, 1), Slots(10 ** 40, 1)):
            self.check_raises(InvalidPlace, {"value": place}, frame.put, place, [])
            self.check_raises(InvalidPlace, {"value": place}, frame.put, place, [2])
        self.assertEqual(content(frame), ([1, 2], {("whole", 0): 3}, 2))

    def test_wrong_bits(self):
        frame = Frame([1, 2], {("whole", 0): 3})
        for place in (WHOLE, Slots(0, 2)):
            for bits in (*NO_LISTS, [0] * (place.bits + 1), [9] * (place.bits + 1)):
                self.check_raises(InvalidBits, {"position": None}, frame.put, place, bits)
            for bit in (True, False, 2, -1, "1", [], (0,), 10 ** 40):
                self.check_raises(InvalidBits, {"position": 0}, frame.put, place, [bit])
                self.check_raises(InvalidBits, {"position": 2}, frame.put, place, [1, None, bit, 3])
        self.assertEqual(content(frame), ([1, 2], {("whole", 0): 3}, 2))


class Stop(Exception):
    """What an action raises that goes wrong."""


class GuardedTest(RaisingTest):

    def change(self, frame, size):
        frame.resize(size)
        frame[WHOLE] = frame[WHOLE] + 1
        frame.put(FLOAT, [1, 1])
        if size > 0:
            frame[0] = 77

    def test_what_an_action_returns(self):
        for value in (None, 0, False, "", [], 5, Frame()):
            frame = Frame([1])
            self.assertIs(guarded(frame, lambda frame: value), value)
            self.assertEqual(frame, Frame([1]))
        frame = Frame([1, 2])
        guarded(frame=frame, action=lambda frame: self.change(frame, 3))
        self.assertEqual(content(frame), ([77, 2, 0], {("float", 7): 3, ("whole", 0): 1}, 3))

    def test_errors(self):
        for error in (Stop(1), InvalidBits(None), KeyError("k"), KeyboardInterrupt(), StopIteration(), SystemExit(3)):
            for size in (0, 1, 3):
                frame = Frame([1, 2], {("whole", 0): 4, ("whole", 1): 9})

                def action(given):
                    self.assertIs(given, frame)
                    self.change(given, size)
                    raise error

                with self.assertRaises(type(error)) as caught:
                    guarded(frame, action)
                self.assertIs(caught.exception, error)
                self.assertEqual(content(frame), ([1, 2], {("whole", 0): 4, ("whole", 1): 9}, 2))

    def test_one_within_another(self):
        frame = Frame([1, 2])

        def inner(frame):
            self.change(frame, 5)
            raise Stop

        def outer(frame):
            frame[0] = 9
            try:
                guarded(frame, inner)
            except Stop:
                return frame.area()

        self.assertEqual(guarded(frame, outer), [9, 2])
        self.assertEqual(content(frame), ([9, 2], {}, 2))

        def outer_that_fails(frame):
            frame[1] = 9
            guarded(frame, lambda frame: self.change(frame, 4))
            raise Stop

        with self.assertRaises(Stop):
            guarded(frame, outer_that_fails)
        self.assertEqual(content(frame), ([9, 2], {}, 2))
        frame[0] = 3
        self.assertEqual(frame.area(), [3, 2])

    def test_wrong_frames(self):
        for value in (*NO_COUNTS, 0, "frame", Slots(0, 1), WHOLE):
            self.check_raises(InvalidFrame, {"value": value}, guarded, value, self.fail)
