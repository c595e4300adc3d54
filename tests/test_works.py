"""Works [13]: what they do on rows, how they are joined, their plain form."""

from itertools import product

from tests.helpers import NO_COUNTS, RaisingTest
from unlikecalls.errors import InvalidBits, InvalidNumber, InvalidWork, TooMany
from unlikecalls.fills import Fill, Work

GREAT = 10 ** 29
FREE = Fill()
DOWN = [Fill("sign" if extent % 2 else "zeros", extent) for extent in range(128, 2, -1)]
NO_FILLS = (True, None, 0, 8, -1, "free", "sign 8", b"", [], [Fill("sign", 8)], (), {}, set(), object(), FREE)
ROW = [1, 0, 1, None, 0, 1, 0, 0, 1, None, 1, 0, 1, 1, 0, 0, 1, None, 0, 1] * 7


def few(most, extents):
    """All works of at most so many fills with these extents."""
    fills = [Fill(word, extent) for word in ("zeros", "sign") for extent in extents]
    for many in range(most + 1):
        for row in product(fills, repeat=many):
            yield Work(*row)


def done(fills, row, width):
    """What [13] says, bit by bit."""
    made = {at: bit for at, bit in enumerate(row)}
    for fill in fills:
        for at in range(width, fill.extent):
            if at in made:
                made[at] = 0 if fill.word == "zeros" else made[width - 1]
    return [made[at] for at in range(len(row))]


def effect(work):
    """What a work does with each bit from 2 on; two works are like each other if this is equal."""
    ones, zeros = work([1] * 128, 2), work([0, 0] + [1] * 126, 2)
    return ones, zeros, work([0] * 128, 2)


class WorkTest(RaisingTest):

    def test_fills(self):
        work = Work(Fill("zeros", 64), Fill("sign", 32), Fill("zeros", 64))
        self.assertEqual(work.fills(), [Fill("zeros", 64), Fill("sign", 32), Fill("zeros", 64)])
        self.assertIs(type(work.fills()), list)
        work.fills().clear()
        self.assertEqual([len(work), len(Work()), Work().fills()], [3, 0, []])

    def test_wrong_fills(self):
        fill = Fill("sign", 8)
        for value in NO_FILLS:
            for position in (0, 1, 5, 125, 126, 200):
                rows = [fill] * position + [value, value, fill]
                self.check_raises(InvalidWork, {"position": position}, Work, *rows)

    def test_too_many(self):
        self.assertEqual(len(Work(*DOWN)), 126)
        for fills in (DOWN + [Fill("sign", 3)], [Fill("sign", 8)] * 127, [Fill("sign", 8)] * 1000):
            self.check_raises(TooMany, {"what": "fills", "limit": 126}, Work, *fills)

    def test_equality(self):
        one, other = Fill("sign", 8), Fill("zeros", 8)
        works = [Work(), Work(one), Work(other), Work(one, one), Work(one, other), Work(other, one)]
        self.check_equal_alone(works, (one, other, [one], (one,), FREE))
        self.assertEqual(Work(one, other), Work(Fill("sign", 8), Fill("zeros", 8)))

    def test_repr(self):
        self.assertEqual(repr(Work(Fill("zeros", 64), Fill("sign", 32))), "Work(Fill('zeros', 64), Fill('sign', 32))")
        self.assertEqual([repr(Work()), repr(Work(Fill("sign", 3)))], ["Work()", "Work(Fill('sign', 3))"])

    def test_examples(self):
        work = Work(Fill("zeros", 4), Fill("sign", 6), Fill("sign", 5))
        found = [work.plain(), work([0, 1, 0, 0, 0, 0, 0], 2)]
        self.assertEqual(repr(found), "[Work(Fill('sign', 6)), [0, 1, 1, 1, 1, 1, 0]]")


class RowTest(RaisingTest):

    def test_rows(self):
        works = [Work(), Work(Fill("zeros", 3)), Work(Fill("sign", 16)), Work(Fill("sign", 128)), Work(*DOWN),
                 Work(*DOWN[::-1]), Work(Fill("zeros", 32), Fill("sign", 16)), Work(Fill("sign", 9), Fill("zeros", 9))]
        for work in works:
            for many in (0, 1, 2, 3, 8, 9, 16, 17, 31, 64, 127, 128, 140):
                for width in (2, 3, 8, 9, 15, 16, 17, 31, 32, 33, 64, 127, 128):
                    row = ROW[:many]
                    self.assertEqual(work(row, width), done(work.fills(), row, width), (work, many, width))

    def test_each_word(self):
        row = [0, 1, 1, 0, 1, 0]
        self.assertEqual(Work(Fill("zeros", 5))(row, 2), [0, 1, 0, 0, 0, 0])
        self.assertEqual(Work(Fill("sign", 5))(row, 2), [0, 1, 1, 1, 1, 0])
        self.assertEqual(Work(Fill("sign", 5))(row, 4), [0, 1, 1, 0, 0, 0])
        self.assertEqual(Work(Fill("sign", 128))(row, width=6), row)
        self.assertEqual(Work(Fill("sign", 128))(width=128, row=row), row)

    def test_unknown_bits(self):
        self.assertEqual(Work(Fill("sign", 5))([0, None, 1, 0, 1, 0], 2), [0, None, None, None, None, 0])
        self.assertEqual(Work(Fill("zeros", 5))([0, None, None, 0, 1, None], 2), [0, None, 0, 0, 0, None])
        self.assertEqual(Work(Fill("sign", 5), Fill("zeros", 4))([1, None, 1, 1, 1], 2), [1, None, 0, 0, None])

    def test_beyond_the_row(self):
        self.assertEqual(Work(Fill("sign", 128))([1, 1, 0], 2), [1, 1, 1])
        self.assertEqual(Work(Fill("sign", 128))([1, 1], 2), [1, 1])
        self.assertEqual(Work(Fill("sign", 128))([1], 2), [1])
        self.assertEqual(Work(Fill("sign", 128))([], 2), [])

    def test_rows_stay(self):
        for work in (Work(), Work(Fill("sign", 5))):
            row = [0, 1, 0, 0, 0, 0]
            made = work(row, 2)
            self.assertEqual(row, [0, 1, 0, 0, 0, 0])
            made.append(1)
            self.assertEqual(work(row, 2), made[:-1])
            self.assertEqual(work(tuple(row), 2), made[:-1])
            self.assertIs(type(work((1, 0), 2)), list)

    def test_wrong_rows(self):
        work = Work(Fill("sign", 5))
        for row in (True, None, 0, 1, "", "01", b"01", {}, {0: 1}, set(), object()):
            self.check_raises(InvalidBits, {"position": None}, work, row, 2)
            self.check_raises(InvalidBits, {"position": None}, work, row, 1)
        for bit in (True, False, 2, -1, GREAT, "", "1", b"1", [], [1], (), (1,), {}, object()):
            for position in (0, 1, 7, 100):
                row = [0, 1, None][:position] + [1] * (position - 3) + [bit, 0, bit]
                self.check_raises(InvalidBits, {"position": position}, work, row, 2)
                self.check_raises(InvalidBits, {"position": position}, work, tuple(row), True)

    def test_wrong_width(self):
        for work in (Work(), Work(Fill("sign", 5))):
            for width in (0, 1, 129, GREAT, *NO_COUNTS):
                self.check_raises(InvalidNumber, {"value": width}, work, [0, 1, 1], width)

    def test_cut_fill_does_the_same(self):
        for fill in (Fill("sign", 3), Fill("zeros", 9), Fill("sign", 16), Fill("zeros", 32), Fill("sign", 128)):
            for width, bits in ((2, 8), (8, 8), (8, 32), (15, 16), (16, 16), (17, 64), (31, 32), (33, 64), (65, 128)):
                row = ROW[:bits]
                self.assertEqual(Work(fill)(row, width), (Work() + fill.cut(width, bits))(row, width))


class JoinTest(RaisingTest):

    def test_with_a_fill(self):
        one, other = Fill("sign", 8), Fill("zeros", 16)
        work = Work(one)
        self.assertEqual([work + other, work + one], [Work(one, other), Work(one, one)])
        self.assertEqual([work + FREE, Work() + FREE, Work() + one], [work, Work(), work])
        self.assertEqual(work, Work(one))

    def test_with_a_work(self):
        one, other = Fill("sign", 8), Fill("zeros", 16)
        first, second = Work(one, other), Work(other)
        self.assertEqual([first + second, second + first], [Work(one, other, other), Work(other, one, other)])
        self.assertEqual([first + Work(), Work() + first, Work() + Work()], [first, first, Work()])
        self.assertEqual([first, second], [Work(one, other), Work(other)])

    def test_does_one_behind_the_other(self):
        works = list(few(2, (3, 5, 9)))
        for one in works:
            for other in works:
                self.assertEqual((one + other)(ROW[:12], 3), other(one(ROW[:12], 3), 3))

    def test_in_place(self):
        one = other = Work()
        one += Fill("sign", 8)
        self.assertEqual([one, other], [Work(Fill("sign", 8)), Work()])

    def test_with_other_values(self):
        for value in NO_FILLS:
            if value is not FREE:
                for work in (Work(), Work(*DOWN)):
                    self.check_raises(InvalidWork, {"position": None}, lambda: work + value)

    def test_too_many(self):
        full = Work(*DOWN)
        self.assertEqual([full + FREE, full + Work(), Work(*DOWN[:100]) + Work(*DOWN[100:])], [full] * 3)
        for more in (Fill("sign", 8), Work(Fill("sign", 8)), full):
            self.check_raises(TooMany, {"what": "fills", "limit": 126}, lambda: full + more)
        self.assertEqual(full, Work(*DOWN))


class PlainTest(RaisingTest):

    def test_shortest_of_all(self):
        """Of all works with three extents, the plain form is the one shortest that does the same."""
        works = list(few(3, (3, 4, 7)))
        by_effect = {}
        for work in works:
            by_effect.setdefault(repr(effect(work)), []).append(work)
        self.assertGreater(len(by_effect), 10)
        for alike in by_effect.values():
            least = min([len(work) for work in alike])
            shortest = [work for work in alike if len(work) == least]
            self.assertEqual(len(shortest), 1)
            for work in alike:
                self.assertEqual(work.plain(), shortest[0])

    def test_like_each_other(self):
        works = list(few(2, (3, 4, 7)))
        for one in works:
            for other in works:
                self.assertIs(one.is_like(other), effect(one) == effect(other), (one, other))

    def test_form(self):
        for work in few(4, (5, 32, 128)):
            plain = work.plain().fills()
            for one, other in zip(plain, plain[1:]):
                self.assertGreater(one.extent, other.extent)
                self.assertNotEqual(one.word, other.word)
            for width in (2, 4, 5, 31, 32, 33):
                self.assertEqual(work.plain()(ROW, width), work(ROW, width))

    def test_hidden_fills(self):
        zeros, sign = Fill("zeros", 16), Fill("sign", 32)
        self.assertEqual(Work(zeros, sign).plain(), Work(sign))
        self.assertEqual(Work(sign, zeros).plain(), Work(sign, zeros))
        self.assertEqual(Work(zeros, sign, zeros).plain(), Work(sign, zeros))
        self.assertEqual(Work(sign, sign).plain(), Work(sign))
        self.assertEqual(Work(sign, Fill("sign", 16)).plain(), Work(sign))
        self.assertEqual(Work(Fill("sign", 16), sign).plain(), Work(sign))
        self.assertEqual(Work(Fill("zeros", 32), sign).plain(), Work(sign))
        hidden = Work(sign, Fill("zeros", 8), zeros, Fill("sign", 8), Fill("sign", 4))
        self.assertEqual(hidden.plain(), Work(sign, zeros, Fill("sign", 8)))
        between = Work(Fill("sign", 16), Fill("zeros", 12), Fill("sign", 12))
        self.assertEqual(between.plain(), Work(Fill("sign", 16)))

    def test_smallest_difference(self):
        self.assertFalse(Work(Fill("sign", 3)).is_like(Work()))
        self.assertFalse(Work(Fill("sign", 3)).is_like(Work(Fill("zeros", 3))))
        self.assertFalse(Work(Fill("sign", 127)).is_like(Work(Fill("sign", 128))))
        self.assertTrue(Work().is_like(other=Work()))

    def test_longest(self):
        longest = Work(*DOWN)
        self.assertEqual(longest.plain(), longest)
        self.assertEqual(Work(*DOWN[::-1]).plain(), Work(DOWN[0]))
        self.assertEqual(Work(*[Fill("sign", extent) for extent in range(128, 2, -1)]).plain(), Work(Fill("sign", 128)))
        self.assertFalse(longest.is_like(Work(*DOWN[:-1])))
        self.assertFalse(longest.is_like(Work(*DOWN[1:])))

    def test_works_stay(self):
        work = Work(Fill("zeros", 4), Fill("sign", 6))
        work.plain()
        work.is_like(Work())
        self.assertEqual(work, Work(Fill("zeros", 4), Fill("sign", 6)))

    def test_like_no_work(self):
        for value in (*NO_FILLS, Fill("sign", 8)):
            self.check_raises(InvalidWork, {"position": None}, Work().is_like, value)
