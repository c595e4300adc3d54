"""Registers, slots and nexts [11], and that they never change [2]."""

from tests.helpers import NO_COUNTS, NO_STRINGS, RaisingTest
from unlikecalls.errors import InvalidNumber, InvalidPlace
from unlikecalls.places import Next, Place, Register, Slots

GREAT = 10 ** 29


class RegisterTest(RaisingTest):

    def test_properties(self):
        for group in ("whole", "float"):
            for number in range(8):
                for place in (Register(group, number), Register(number=number, group=group)):
                    self.assertIsInstance(place, Place)
                    self.assertEqual((place.group, place.number, place.bits), (group, number, 64))
                    self.check_read_only(place, ("group", "number", "bits"))

    def test_repr(self):
        self.assertEqual(repr(Register("whole", 0)), "Register('whole', 0)")
        self.assertEqual(repr(Register("float", 7)), "Register('float', 7)")

    def test_wrong_group(self):
        for group in ("", "wholes", "Whole", "whole ", "floats", "f", *NO_STRINGS):
            self.check_raises(InvalidPlace, {"value": group}, Register, group, 0)
            self.check_raises(InvalidPlace, {"value": group}, Register, group, 8)

    def test_wrong_number(self):
        for number in (8, 9, GREAT, *NO_COUNTS):
            self.check_raises(InvalidPlace, {"value": number}, Register, "whole", number)
            self.check_raises(InvalidPlace, {"value": number}, Register, number=number, group="float")


class SlotsTest(RaisingTest):

    def test_properties(self):
        for offset in (0, 1, 7, 8, 255, 256, GREAT):
            for many in range(1, 17):
                for place in (Slots(offset, many), Slots(many=many, offset=offset)):
                    self.assertIsInstance(place, Place)
                    found = (place.offset, place.many, place.end, place.bits)
                    self.assertEqual(found, (offset, many, offset + many, 8 * many))
                    self.check_read_only(place, ("offset", "many", "end", "bits"))

    def test_repr(self):
        self.assertEqual([repr(Slots(8, 4)), repr(Slots(0, 16))], ["Slots(8, 4)", "Slots(0, 16)"])

    def test_wrong_offset(self):
        for offset in NO_COUNTS:
            self.check_raises(InvalidPlace, {"value": offset}, Slots, offset, 1)
            self.check_raises(InvalidPlace, {"value": offset}, Slots, offset, 0)

    def test_wrong_many(self):
        for many in (0, 17, 18, GREAT, *NO_COUNTS):
            self.check_raises(InvalidPlace, {"value": many}, Slots, 0, many)
            self.check_raises(InvalidPlace, {"value": many}, Slots, many=many, offset=5)

    def test_bytes(self):
        slots = Slots(4, 8)
        self.assertEqual([byte for byte in range(-5, 30) if byte in slots], list(range(4, 12)))
        self.assertEqual([byte for byte in range(-5, 30) if byte in Slots(0, 1)], [0])
        self.assertTrue(GREAT + 15 in Slots(GREAT, 16))
        self.assertFalse(GREAT + 16 in Slots(GREAT, 16))
        for value in (*NO_COUNTS, "4", slots, Register("whole", 4), Next(4, 4)):
            self.assertIs(value in slots, False, value)
            self.assertIs(value in Slots(0, 16), False, value)

    def test_meets(self):
        rows = [Slots(offset, many) for offset in range(8) for many in range(1, 6)]
        for one in rows:
            for other in rows:
                common = set(range(one.offset, one.end)) & set(range(other.offset, other.end))
                self.assertIs(one.meets(other), len(common) > 0, (one, other))
        self.assertFalse(Slots(4, 8).meets(other=Slots(12, 2)))
        self.assertTrue(Slots(4, 8).meets(Slots(11, 2)))

    def test_meets_no_slots(self):
        for other in (*NO_COUNTS, 4, Place(), Register("whole", 0), Next(8, 8)):
            self.check_raises(InvalidPlace, {"value": other}, Slots(0, 8).meets, other)

    def test_moved(self):
        slots = Slots(4, 8)
        for by in (0, 1, 4, 255, GREAT):
            self.assertEqual(slots + by, Slots(4 + by, 8))
            self.assertEqual(Slots(GREAT, 3) - by, Slots(GREAT - by, 3))
        self.assertEqual([slots - 0, slots - 1, slots - 4], [Slots(4, 8), Slots(3, 8), Slots(0, 8)])
        self.assertEqual(slots, Slots(4, 8))

    def test_moved_in_place(self):
        one = other = Slots(4, 8)
        one += 4
        self.assertEqual((one, other), (Slots(8, 8), Slots(4, 8)))
        one -= 8
        self.assertEqual((one, other), (Slots(0, 8), Slots(4, 8)))

    def test_moved_by_no_count(self):
        slots = Slots(4, 8)
        for by in (*NO_COUNTS, slots, Register("whole", 0)):
            self.check_raises(InvalidNumber, {"value": by}, lambda: slots + by)
            self.check_raises(InvalidNumber, {"value": by}, lambda: slots - by)

    def test_moved_below_zero(self):
        for by in (5, 6, GREAT):
            self.check_raises(InvalidNumber, {"value": by}, lambda: Slots(4, 8) - by)
        self.check_raises(InvalidNumber, {"value": 1}, lambda: Slots(0, 1) - 1)


class NextTest(RaisingTest):

    def test_properties(self):
        for align in (1, 2, 4, 8, 16):
            for many in range(1, 17):
                for place in (Next(align, many), Next(many=many, align=align)):
                    self.assertIsInstance(place, Place)
                    self.assertEqual((place.align, place.many, place.bits), (align, many, 8 * many))
                    self.check_read_only(place, ("align", "many", "bits"))

    def test_repr(self):
        self.assertEqual([repr(Next(8, 4)), repr(Next(1, 16))], ["Next(8, 4)", "Next(1, 16)"])

    def test_wrong_align(self):
        for align in (0, 3, 5, 6, 7, 9, 12, 15, 17, 24, 32, GREAT, *NO_COUNTS):
            self.check_raises(InvalidPlace, {"value": align}, Next, align, 1)
            self.check_raises(InvalidPlace, {"value": align}, Next, align, 0)

    def test_wrong_many(self):
        for many in (0, 17, 18, GREAT, *NO_COUNTS):
            self.check_raises(InvalidPlace, {"value": many}, Next, 1, many)
            self.check_raises(InvalidPlace, {"value": many}, Next, many=many, align=16)

    def test_where_it_begins(self):
        for align in (1, 2, 4, 8, 16):
            for offset in (*range(40), 1000, GREAT - 1, GREAT, GREAT + 1):
                begin = offset
                while begin % align:
                    begin += 1
                for many in (1, 4, 16):
                    self.assertEqual(Next(align, many).from_offset(offset), Slots(begin, many))
        self.assertEqual(Next(8, 4).from_offset(offset=9), Slots(16, 4))

    def test_wrong_offset(self):
        for offset in NO_COUNTS:
            self.check_raises(InvalidNumber, {"value": offset}, Next(1, 1).from_offset, offset)


class PlacesTest(RaisingTest):

    def test_place(self):
        self.assertEqual(Place().bits, 0)
        self.check_read_only(Place(), ("bits",))

    def test_equality(self):
        registers = [Register(group, number) for group in ("whole", "float") for number in (0, 1, 7)]
        slots = [Slots(offset, many) for offset in (0, 1, 8, GREAT) for many in (1, 8)]
        nexts = [Next(align, many) for align in (1, 8) for many in (1, 8)]
        self.check_equal_alone([*registers, *slots, *nexts], (("whole", 0), (0, 8), (8, 8), Place()))
        self.assertEqual(Register("whole", 1), Register("whole", 1))
        self.assertEqual(Slots(GREAT, 2), Slots(GREAT, 2))
        self.assertEqual(Next(2, 3), Next(2, 3))

    def test_examples(self):
        slots = Slots(4, 8)
        found = [slots.end, slots + 4, slots - 4, 11 in slots, slots.meets(Slots(12, 2)), Next(8, 4).from_offset(9),
                 Register("float", 2).bits]
        self.assertEqual(repr(found), "[12, Slots(8, 8), Slots(0, 8), True, False, Slots(16, 4), 64]")
