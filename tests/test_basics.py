"""INTEGERS, COUNTS, BYTES and NAMES [2]."""

import unittest

from unlikecalls.basics import is_byte, is_count, is_integer, is_name

HUGE = 10 ** 30 - 1


class BasicsTest(unittest.TestCase):

    def check(self, question, yes, no):
        for value in yes:
            self.assertIs(question(value), True, value)
        for value in no:
            self.assertIs(question(value), False, value)
        self.assertIs(question(value=yes[0]), True)

    def test_integers(self):
        no = (True, False, None, "", "0", "1", b"1", [], [1], (), (1,), {}, {1: 1}, set(), object(), int)
        self.check(is_integer, (0, 1, 2, -1, -2, 255, 256, HUGE, -HUGE), no)

    def test_counts(self):
        no = (-1, -2, -256, -HUGE, True, False, None, "", "1", [], [0], (), (0,), {}, {0: 0}, object())
        self.check(is_count, (0, 1, 2, 255, 256, 257, HUGE), no)

    def test_bytes(self):
        no = (256, 257, HUGE, -1, -255, -HUGE, True, False, None, "", "7", b"7", [], [0], (), (0,), {}, object())
        self.check(is_byte, (0, 1, 2, 127, 128, 254, 255), no)

    def test_names(self):
        yes = ("a", "z", "az", "abc", "abcdefg", "abcdefgh", "zzzzzzzz", "free", "kind")
        no = ("", "abcdefghi", "abcdefghij", "A", "Z", "aB", "a1", "1", "_", "a_b", " ", "a ", " a", "a b", "a\n", "\n",
              "...", "`", "{", "@", "a.b", "\u00e9", "\u0430", "\u00aa", True, False, None, 0, 1, -1, b"a", b"abc",
              [], ["a"], (), ("a",), {}, {"a": 1}, set(), object())
        self.check(is_name, yes, no)
