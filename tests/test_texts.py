"""Texts of books and conventions, written and read [92]."""

import re
from itertools import product

from tests.helpers import (
    ALIEN, BOOK, FULL, FULL_BOOK, MANY, NO_COUNTS, NO_STRINGS, OVER, PLANS, SORT_PLANS, WIDE, WIDE_PLANS, Dice, RaisingTest,
)
from unlikecalls.conventions import Convention
from unlikecalls.errors import InvalidConvention, InvalidText
from unlikecalls.fills import Fill
from unlikecalls.kinds import Book, Kind
from unlikecalls.texts import read_convention, text_of

KIND = r"kind ([a-z]{1,8}) (whole|float) (1|2|4|8|16) (0|[1-9][0-9]{0,99}) (1|2|4|8|16)"
OPTIONS = (r"registers [0-3] [0-3]", r"together (yes|no)", r"doubles (whole|even|split)", r"again (yes|no)", r"slot [48]",
           r"natural (yes|no)", r"home (0|16|32)", r"tail (same|slots)")
FILL = r"fill ([a-z]{1,8}) (zeros|sign) ([1-9][0-9]{0,99})"

PLAIN = ["kind a whole 1 8 1", "kind w float 16 100 8", "registers 2 0", "together no", "doubles whole", "again no", "slot 4",
         "natural yes", "home 0", "tail same", "fill a sign 32", "fill w zeros 128"]


def text_by_hand(plan):
    """The text, word by word, by the words of [92]."""
    lines = [["kind", kind.name, kind.group, str(kind.size), str(kind.width), str(kind.align)] for kind in plan.book.kinds()]
    flag = {True: "yes", False: "no"}
    lines += [["registers", str(plan.wholes), str(plan.floats)], ["together", flag[plan.together]], ["doubles", plan.doubles],
              ["again", flag[plan.again]], ["slot", str(plan.slot)], ["natural", flag[plan.natural]], ["home", str(plan.home)],
              ["tail", plan.tail]]
    for name in plan.book.names():
        fill = plan.fill(name)
        if fill.word != "free":
            lines.append(["fill", name, fill.word, str(fill.extent)])
    return "".join(" ".join(words) + "\n" for words in lines)


def can_begin(lines):
    """Whether a text can begin with these lines, each with its line feed."""
    names = []
    while lines and (found := re.fullmatch(KIND, lines[0])):
        name, _, size, width, _ = found.groups()
        least = 65 if size == "16" else 2
        if name in names or len(names) == 5 or not least <= int(width) <= 8 * int(size):
            return False
        names.append(name)
        lines = lines[1:]
    if lines and not names:
        return False
    for option in OPTIONS:
        if not lines:
            return True
        if not re.fullmatch(option, lines[0]):
            return False
        lines = lines[1:]
    numbers = []
    for line in lines:
        found = re.fullmatch(FILL, line)
        if not found or found[1] not in names or not 3 <= int(found[3]) <= 128:
            return False
        numbers.append(names.index(found[1]))
    return numbers == sorted(set(numbers))


def is_whole(lines):
    return can_begin(lines) and len([line for line in lines if line.startswith("tail ")]) == 1


def wrong_line(text):
    """The wrong line of a string, None if it is a text, by the words of [92]."""
    lines = text.split("\n")
    rest = lines.pop()
    for number in range(len(lines)):
        if not can_begin(lines[:number + 1]):
            return number + 1
    return None if rest == "" and is_whole(lines) else len(lines) + 1


def some_conventions():
    dice = Dice(90)
    books = [BOOK, WIDE, ALIEN, FULL_BOOK, MANY[0].book, Book(Kind("abcdefgh", "float", size=2, width=2, align=16)),
             Book(*[Kind(name, size=16, width=65 + at, align=2 ** at) for at, name in enumerate(("x", "kind", "fill", "tail", "z"))])]
    for book in books:
        for _ in range(40):
            yield dice.convention(book)
    yield from (*PLANS, *WIDE_PLANS, *SORT_PLANS, *FULL, *OVER, *MANY)


class WritingTest(RaisingTest):

    def test_all_sorts(self):
        for plan in some_conventions():
            text = text_of(plan)
            self.assertEqual(text, text_by_hand(plan))
            found = read_convention(text)
            self.assertEqual(found, plan)
            self.assertEqual(text_of(convention=found), text)
            self.assertIs(type(found), Convention)
            self.assertIsNone(wrong_line(text))

    def test_all_options(self):
        book = Book(Kind("a", size=1), Kind("d", size=16))
        for wholes, floats, slot, home in product(range(4), range(4), (4, 8), (0, 16, 32)):
            plan = Convention(book, wholes=wholes, floats=floats, slot=slot, home=home)
            self.assertEqual(read_convention(text_by_hand(plan)), plan)
            self.assertEqual(text_of(plan), text_by_hand(plan))
        for together, again, natural, doubles, tail in product(*[(True, False)] * 3, ("whole", "even", "split"), ("same", "slots")):
            plan = Convention(book, together=together, again=again, natural=natural, doubles=doubles, tail=tail)
            self.assertEqual(read_convention(text=text_by_hand(plan)), plan)
            self.assertEqual(text_of(plan), text_by_hand(plan))

    def test_all_fills(self):
        book = Book(Kind("a", size=1), Kind("b"))
        for word, extent in product(("zeros", "sign"), range(3, 129)):
            for fills in ({"a": Fill(word, extent)}, {"b": Fill(word, extent)}, {"a": Fill("sign", 9), "b": Fill(word, extent)}):
                plan = Convention(book, fills=fills)
                self.assertEqual((text_of(plan), read_convention(text_of(plan))), (text_by_hand(plan), plan))

    def test_all_kinds(self):
        for size, align, group in product((1, 2, 4, 8, 16), (1, 2, 4, 8, 16), ("whole", "float")):
            for width in {65 if size == 16 else 2, 8 * size - 1, 8 * size}:
                plan = Convention(Book(Kind("q", group, size=size, width=width, align=align)))
                self.assertEqual((text_of(plan), read_convention(text_of(plan))), (text_by_hand(plan), plan))

    def test_example(self):
        plan = Convention(BOOK, wholes=2, slot=4, fills={"a": Fill("sign", 32)})
        self.assertEqual([text_of(plan), read_convention(text_of(plan)) == plan], [
            "kind a whole 1 8 1\nkind w whole 8 64 8\nregisters 2 0\ntogether no\ndoubles whole\nagain no\nslot 4\n"
            "natural yes\nhome 0\ntail same\nfill a sign 32\n", True])

    def test_free_fills(self):
        self.assertEqual(text_of(Convention(BOOK, fills={"a": Fill(), "w": Fill()})), text_of(Convention(BOOK)))

    def test_wrong_conventions(self):
        for value in (*NO_STRINGS, "plan", BOOK, text_of(PLANS[0])):
            self.check_raises(InvalidConvention, {"value": value}, text_of, value)


class WrongLineTest(RaisingTest):

    def check_text(self, text, line):
        self.assertEqual(wrong_line(text), line, text)
        if line is None:
            self.assertEqual(text_of(read_convention(text)), text)
        else:
            self.check_raises(InvalidText, {"line": line}, read_convention, text)

    def check_lines(self, lines, line):
        self.check_text("".join(each + "\n" for each in lines), line)

    def test_plain_text(self):
        self.check_lines(PLAIN, None)
        for number in range(10, 13):
            self.check_lines(PLAIN[:number], None)

    def test_too_short(self):
        for number in range(10):
            self.check_lines(PLAIN[:number], number + 1)
        self.check_text("", 1)

    def test_no_line_feed_at_the_end(self):
        for number in range(1, 13):
            self.check_text("\n".join(PLAIN[:number]), number)
        self.check_text("k", 1)
        self.check_text(" ", 1)
        self.check_text("\n".join(PLAIN) + "\n ", 13)
        # An earlier line is wrong already.
        self.check_text("\n".join(["kind A whole 1 8 1", *PLAIN[1:]]), 1)
        self.check_text("\n".join(["kind a whole 1 8 1", "together no"]), 2)

    def test_a_line_missing(self):
        wanted = {0: 10, 1: 11, 10: None, 11: None}
        for at in range(12):
            self.check_lines(PLAIN[:at] + PLAIN[at + 1:], wanted.get(at, at + 1))
        self.check_lines(PLAIN[2:], 1)

    def test_a_line_twice(self):
        for at in range(12):
            self.check_lines(PLAIN[:at + 1] + PLAIN[at:], at + 2)

    def test_two_lines_exchanged(self):
        for one in range(12):
            for other in range(one + 1, 12):
                lines = list(PLAIN)
                lines[one], lines[other] = lines[other], lines[one]
                text = "".join(line + "\n" for line in lines)
                self.check_text(text, wrong_line(text))

    def test_blanks_and_words(self):
        for at, line in enumerate(PLAIN):
            words = line.split(" ")
            wrong = [line + " ", " " + line, line.replace(" ", "  ", 1), line + " 1", line + " no", " ".join(words[:-1]), words[0], "",
                     " ", line.upper(), line.title(), line + ",", "x" + line, line.replace(" ", "-"), line[:-1] + "x", "# " + line,
                     " ".join(words[:1] + words[2:]), " ".join(words[:2] + words[1:]), line.replace(" ", "_")]
            for other in wrong:
                self.check_lines(PLAIN[:at] + [other] + PLAIN[at + 1:], at + 1)
                self.check_lines(PLAIN[:at] + [other], at + 1)
            self.check_lines(PLAIN[:at] + ["", *PLAIN[at:]], at + 1)
        self.check_lines(PLAIN + [""], 13)
        self.check_text("\n", 1)
        self.check_text("\n\n\n", 1)

    def test_numbers(self):
        places = {0: (3, 4, 5), 1: (3, 4, 5), 2: (1, 2), 6: (1,), 8: (1,), 10: (3,), 11: (3,)}
        words = ["00", "01", "08", "016", "+1", "-1", "-0", "+8", "1.", "8.0", "1e1", "0x8", "0b1", "8_0", "one", "129", "1000",
                 "9" * 30, "9" * 5000, "3", "5", "6", "17", "33", "64", "yes", "", "4 ", "2", "65", "66", "100", "101", "128"]
        for at, columns in places.items():
            for column, word in product(columns, words):
                parts = PLAIN[at].split(" ")
                parts[column] = word
                text = "".join(line + "\n" for line in PLAIN[:at] + [" ".join(parts)] + PLAIN[at + 1:])
                self.check_text(text, wrong_line(text))

    def test_widths(self):
        for size, width, is_right in ((1, 1, False), (1, 2, True), (1, 8, True), (1, 9, False), (8, 64, True), (8, 65, False),
                                      (16, 64, False), (16, 65, True), (16, 128, True), (16, 129, False), (3, 8, False), (0, 2, False)):
            self.check_lines([f"kind a whole {size} {width} 1", *PLAIN[1:]], None if is_right else 1)

    def test_kinds_together(self):
        kinds = [f"kind {name} whole 1 8 1" for name in ("a", "b", "c", "d", "e", "f")]
        self.check_lines(kinds[:5] + PLAIN[2:11], None)
        self.check_lines(kinds + PLAIN[2:11], 6)
        self.check_lines(kinds[:3] + [kinds[1]] + PLAIN[2:11], 4)
        self.check_lines(kinds[:2] + ["kind a float 16 100 2"] + PLAIN[2:11], 3)
        self.check_lines(kinds[:5] + [kinds[0]], 6)
        for name in ("", "A", "abcdefghi", "a1", "a-b", "...", "a_b"):
            self.check_lines([f"kind {name} whole 1 8 1", *PLAIN[1:]], 1)
        for name in ("abcdefgh", "kind", "free", "fill"):
            self.check_lines([f"kind {name} whole 1 8 1", *PLAIN[1:10]], None)
        for group in ("Whole", "wholes", "double", ""):
            self.check_lines([PLAIN[0], f"kind w {group} 8 8 8", *PLAIN[2:10]], 2)
        # A kind behind the options.
        for at in range(3, 12):
            self.check_lines(PLAIN[:at] + ["kind z whole 8 8 8"] + PLAIN[at:], at + 1)

    def test_fills_together(self):
        kinds = [f"kind {name} whole 8 8 8" for name in ("a", "b", "c")]
        head = kinds + PLAIN[2:10]
        right = ["fill a sign 9", "fill b zeros 10", "fill c sign 3"]
        for number in range(8):
            self.check_lines(head + [line for at, line in enumerate(right) if number >> at & 1], None)
        rows = (([1, 0], 13), ([2, 1], 13), ([2, 0], 13), ([0, 2, 1], 14), ([0, 0], 13), ([1, 1], 13), ([0, 1, 2, 2], 15))
        for numbers, line in rows:
            self.check_lines(head + [right[at] for at in numbers], line)
        for wrong in ("fill d sign 9", "fill a free", "fill a free 9", "fill a sign", "fill a sign 2", "fill a sign 129", "fill sign 9",
                      "fill a zeros 03", "fill a Sign 9", "fill a zero 9", "fill  a sign 9", "fill ... sign 9", "fill a sign 9 9", "tail same"):
            self.check_lines(head + [wrong], 12)
            self.check_lines(head + [wrong, *right], 12)
        # A fill ahead of the last option.
        for at in range(3, 11):
            self.check_lines(head[:at] + ["fill a sign 9"] + head[at:], at + 1)

    def test_lines_that_are_wrong_only_behind_others(self):
        """Each line is right in another place."""
        for at, line in product(range(13), PLAIN):
            text = "".join(each + "\n" for each in PLAIN[:at] + [line] + PLAIN[at:])
            self.check_text(text, wrong_line(text))
            text = "".join(each + "\n" for each in PLAIN[:at] + [line] + PLAIN[at + 1:])
            self.check_text(text, wrong_line(text))

    def test_any_changes(self):
        dice, found = Dice(2), set()
        plans = list(some_conventions())
        signs = "abkw 0123456789\n xyesno"
        for _ in range(1500):
            text = text_of(dice.pick(plans))
            for _ in range(1 + dice.roll(2)):
                at, kind = dice.roll(len(text)), dice.roll(3)
                text = text[:at] + ("" if kind == 0 else dice.pick(signs)) + text[at + (kind < 2):]
                text = text or "\n"
            line = wrong_line(text)
            found.add(line)
            self.check_text(text, line)
        self.assertGreater(len(found), 12)

    def test_long_strings(self):
        self.check_text("kind a whole 1 8 1\n" + "kind b whole 1 8 1\n" * 1000, 3)
        self.check_text("x" * 20000, 1)
        self.check_text("\n" * 20000, 1)
        self.check_text("".join(line + "\n" for line in PLAIN) + "fill z sign 9\n" * 1000, 13)

    def test_no_strings(self):
        for value in (*NO_STRINGS, *NO_COUNTS[9:], [text_of(PLANS[0])], PLANS[0]):
            if not isinstance(value, str):
                self.check_raises(InvalidText, {"line": 0}, read_convention, value)
        self.check_raises(InvalidText, {"line": 0}, read_convention, text=None)
