"""Fills [12]: what they are, how they are cut, which ones cover others."""

from tests.helpers import NO_COUNTS, RaisingTest
from unlikecalls.errors import InvalidFill, InvalidNumber
from unlikecalls.fills import Fill, Work
from unlikecalls.places import Slots

GREAT = 10 ** 29
WORDS = ("zeros", "sign")
FREE = Fill()
SOME = [FREE] + [Fill(word, extent) for word in WORDS for extent in (3, 4, 8, 31, 32, 33, 64, 127, 128)]
NO_WORDS = ("", "Free", "FREE", "free ", "zero", "signs", "zeros 8", "sign 8", True, False, None, 0, 1, b"free", [],
            ["free"], (), ("sign",), {}, set(), object(), FREE)
NO_EXTENTS = (0, 1, 2, 129, 130, 256, GREAT, *NO_COUNTS)


class FillTest(RaisingTest):

    def test_properties(self):
        for word in WORDS:
            for extent in range(3, 129):
                for fill in (Fill(word, extent), Fill(extent=extent, word=word)):
                    self.assertEqual((fill.word, fill.extent), (word, extent))
                    self.check_read_only(fill, ("word", "extent"))
        for fill in (Fill(), Fill("free"), Fill("free", None), Fill(extent=None, word="free")):
            self.assertEqual((fill.word, fill.extent), ("free", None))
            self.check_read_only(fill, ("word", "extent"))

    def test_wrong_word(self):
        for word in NO_WORDS:
            self.check_raises(InvalidFill, {"value": word}, Fill, word)
            self.check_raises(InvalidFill, {"value": word}, Fill, word, 8)
            self.check_raises(InvalidFill, {"value": word}, Fill, word, 2)

    def test_wrong_extent(self):
        for extent in NO_EXTENTS:
            for word in WORDS:
                self.check_raises(InvalidFill, {"value": extent}, Fill, word, extent)
                self.check_raises(InvalidFill, {"value": extent}, Fill, extent=extent, word=word)
        for extent in (8, 64, *NO_EXTENTS):
            if extent is not None:
                self.check_raises(InvalidFill, {"value": extent}, Fill, "free", extent)
                self.check_raises(InvalidFill, {"value": extent}, Fill, extent=extent)
        self.check_raises(InvalidFill, {"value": None}, Fill, "sign")

    def test_equality(self):
        self.check_equal_alone(SOME, ("free", ("zeros", 8), Work(), Slots(0, 8)))
        self.assertEqual(Fill("sign", 100), Fill("sign", 100))
        self.assertEqual(Fill(), Fill("free"))

    def test_str_and_repr(self):
        self.assertEqual([str(Fill()), str(Fill("zeros", 32)), str(Fill("sign", 3))], ["free", "zeros 32", "sign 3"])
        found = [repr(Fill("sign", 32)), repr(Fill("zeros", 128)), repr(Fill())]
        self.assertEqual(found, ["Fill('sign', 32)", "Fill('zeros', 128)", "Fill('free')"])

    def test_examples(self):
        found = [Fill("sign", 32).cut(8, 16), Fill("zeros", 8).cut(8, 64), Fill("sign", 64).covers(Fill("sign", 32))]
        self.assertEqual(repr(found), "[Fill('sign', 16), Fill('free'), True]")


class ReadTest(RaisingTest):

    def test_each_text(self):
        fills = [FREE] + [Fill(word, extent) for word in WORDS for extent in range(3, 129)]
        for fill in fills:
            self.assertEqual(Fill.read(str(fill)), fill)
            self.assertEqual(fill.read(text=str(fill)), fill)

    def test_other_texts(self):
        texts = ["", " ", "Free", "free ", " free", "free 8", "free None", "zeros", "sign", "zeros ", "sign  8",
                 "sign 08", "sign 8 ", " sign 8", "sign 8 8", "sign +8", "sign -8", "sign 2", "sign 0", "zeros 129",
                 "zeros 1000", "zeros 1_0", "sign 8.0", "sign\n8", "sign 8\n", "sign eight", "Sign 8", "sign8",
                 "signs 8", "sign \u0668", "sign \u00b3", "zeros sign 8", "sign " + "8" * 6000, "sign " + "0" * 5000]
        for text in texts:
            self.check_raises(InvalidFill, {"value": text}, Fill.read, text)

    def test_no_texts(self):
        for value in (True, None, 0, 8, b"free", [], ["free"], (), ("sign", 8), {}, set(), object(), Fill("sign", 8)):
            self.check_raises(InvalidFill, {"value": value}, Fill.read, value)


class CutTest(RaisingTest):

    def test_near_the_extents(self):
        numbers = (2, 3, 4, 7, 8, 9, 31, 32, 33, 63, 64, 65, 127, 128)
        for fill in SOME:
            for width in numbers:
                for bits in [number for number in numbers if number >= width]:
                    self.check_cut(fill, width, bits)

    def check_cut(self, fill, width, bits):
        """A fill cut is just that of the bits that it sets in the place."""
        made = fill.cut(width, bits)
        touched = [bit for bit in range(width, bits) if fill.extent is not None and bit < fill.extent]
        if touched:
            self.assertEqual(made, Fill(fill.word, touched[-1] + 1), (fill, width, bits))
        else:
            self.assertEqual(made, FREE, (fill, width, bits))
        self.assertEqual(made.cut(width, bits), made)

    def test_edges(self):
        self.assertEqual(Fill("sign", 3).cut(2, 3), Fill("sign", 3))
        self.assertEqual(Fill("sign", 3).cut(2, 2), FREE)
        self.assertEqual(Fill("sign", 9).cut(8, 64), Fill("sign", 9))
        self.assertEqual(Fill("sign", 8).cut(8, 64), FREE)
        self.assertEqual(Fill("zeros", 128).cut(8, 64), Fill("zeros", 64))
        self.assertEqual(Fill("zeros", 128).cut(width=64, bits=64), FREE)
        self.assertEqual(Fill("zeros", 128).cut(bits=128, width=127), Fill("zeros", 128))

    def test_cuts_of_cuts(self):
        for fill in SOME:
            for many in (8, 9, 16, 32, 64, 128):
                for fewer in (8, 9, 16, 32, 64, 128):
                    if fewer <= many:
                        self.assertEqual(fill.cut(8, many).cut(8, fewer), fill.cut(8, fewer))
                        self.assertEqual(fill.cut(8, fewer).cut(8, many), fill.cut(8, fewer))

    def test_wrong_width(self):
        for fill in (FREE, Fill("sign", 32)):
            for width in (0, 1, 129, GREAT, *NO_COUNTS):
                self.check_raises(InvalidNumber, {"value": width}, fill.cut, width, 64)
                self.check_raises(InvalidNumber, {"value": width}, fill.cut, bits=0, width=width)

    def test_wrong_bits(self):
        for fill in (FREE, Fill("sign", 32)):
            for bits in (0, 1, 2, 7, 129, GREAT, *NO_COUNTS):
                self.check_raises(InvalidNumber, {"value": bits}, fill.cut, 8, bits)
                self.check_raises(InvalidNumber, {"value": bits}, fill.cut, bits=bits, width=8)
            self.check_raises(InvalidNumber, {"value": 127}, fill.cut, 128, 127)

    def test_fills_stay(self):
        fill = Fill("sign", 64)
        fill.cut(8, 16)
        self.check_raises(InvalidNumber, {"value": 7}, fill.cut, 8, 7)
        self.assertEqual((fill.word, fill.extent), ("sign", 64))


class CoversTest(RaisingTest):

    def test_all(self):
        for one in SOME:
            for other in SOME:
                expected = other == FREE
                if one.word == other.word and one != FREE:
                    expected = one.extent >= other.extent
                self.assertIs(one.covers(other), expected, (one, other))
        self.assertTrue(FREE.covers(other=FREE))

    def test_no_fill(self):
        for value in (*NO_COUNTS, 8, "sign 8", "free", Work(), Slots(0, 8)):
            for fill in (FREE, Fill("sign", 32)):
                self.check_raises(InvalidFill, {"value": value}, fill.covers, value)
