"""What several tests need: how errors are looked at, some conventions, and walks and runs apart from the program's."""

import unittest

from unlikecalls.adapters import Adapter
from unlikecalls.conventions import Convention
from unlikecalls.fills import Fill, Work
from unlikecalls.frames import Frame
from unlikecalls.kinds import Book, Kind
from unlikecalls.places import Next, Register, Slots
from unlikecalls.signatures import Signature
from unlikecalls.steps import Step

# Values of many kinds. None of them is a COUNT.
NO_COUNTS = (True, False, None, -1, -10 ** 29, "", "1", "a", b"1", [], [1], (), (1,), {}, {1: 1}, set(), object())
NO_STRINGS = (True, False, None, 0, 1, -1, b"a", [], ["a"], (), ("a",), {}, {"a": 1}, set(), object())


class RaisingTest(unittest.TestCase):
    """A test that looks at the errors of calls."""

    def check_raises(self, error_class, attributes, action, *values, **named):
        """action raises an error of just this class, with just these attributes."""
        try:
            action(*values, **named)
        except Exception as error:
            caught = error
        else:
            self.fail(f"{error_class.__name__} is not raised for {values} {named}")
        self.assertIs(type(caught), error_class, repr(caught))
        self.check_same_values(vars(caught), attributes)

    def check_same_values(self, found, wanted):
        """Equal dicts, whose values are also of the same classes (True is not 1)."""
        self.assertEqual(list(found), list(wanted))
        for name, value in wanted.items():
            self.assertIs(type(found[name]), type(value))
            self.assertTrue(found[name] is value or found[name] == value, (found, wanted))

    def check_equal_alone(self, values, others=()):
        """Each value is equal to itself and to no other one, nor to values of other kinds."""
        strangers = (None, True, 0, 1, "", repr(values[0]), [], (), {}, object(), *others)
        for at, one in enumerate(values):
            for number, other in enumerate(values):
                self.assertIs(one == other, at == number, (one, other))
                self.assertIs(one != other, at != number, (one, other))
            for stranger in strangers:
                self.assertFalse(one == stranger, (one, stranger))
                self.assertFalse(stranger == one, (one, stranger))
                self.assertTrue(one != stranger, (one, stranger))

    def check_read_only(self, thing, names):
        """The properties of an object that never changes cannot be set."""
        for name in names:
            before = getattr(thing, name)
            with self.assertRaises(AttributeError, msg=name):
                setattr(thing, name, before)
            self.assertEqual(getattr(thing, name), before)


BOOK = Book(Kind("a", size=1), Kind("w"))
WIDE = Book(Kind("a", size=1, width=7), Kind("d", size=16, width=100), Kind("f", "float", size=4, align=16))
ALIEN = Book(Kind("a", size=2), Kind("w"))

# Each differs from the first one of its book in one option or in several.
PLANS = [Convention(BOOK), Convention(BOOK, wholes=1), Convention(BOOK, slot=4), Convention(BOOK, home=16),
         Convention(BOOK, wholes=2, again=True, tail="slots"), Convention(BOOK, slot=4, natural=False),
         Convention(BOOK, fills={"a": Fill("sign", 32)}), Convention(BOOK, wholes=3, fills={"a": Fill("zeros", 64)}),
         Convention(BOOK, slot=4, fills={"a": Fill("sign", 64), "w": Fill("sign", 100)})]
WIDE_PLANS = [Convention(WIDE), Convention(WIDE, wholes=3, floats=1, fills={"a": Fill("sign", 64)}),
              Convention(WIDE, wholes=2, doubles="split", slot=4, fills={"d": Fill("zeros", 128)}),
              Convention(WIDE, wholes=3, doubles="even", tail="slots", fills={"d": Fill("zeros", 110)}),
              Convention(WIDE, wholes=1, floats=2, doubles="split", together=True, again=True, home=32, slot=4,
                         fills={"a": Fill("sign", 20), "f": Fill("sign", 40)})]

# Two conventions that have just 400 joint states, two that have just one more, and two that have many more.
FULL_BOOK = Book(Kind("a", "float", size=1, align=4), Kind("b", size=1, align=8), Kind("c", size=16))
FULL = (Convention(FULL_BOOK, floats=1, slot=4, tail="slots"),
        Convention(FULL_BOOK, wholes=3, floats=2, slot=4, tail="slots"))
OVER_BOOK = Book(Kind("a", "float", size=4), Kind("b", size=1, align=4), Kind("c", "float", size=4, align=8),
                 Kind("d", "float", size=4), Kind("e", "float", size=1, align=4))
OVER = (Convention(OVER_BOOK, wholes=2, floats=1, doubles="split", slot=4),
        Convention(OVER_BOOK, floats=3, together=True, again=True, slot=4, natural=False, tail="slots"))
MANY_BOOK = Book(Kind("a", size=1), Kind("b", "float", size=4), Kind("c", size=16), Kind("w"), Kind("e", "float"))
MANY = (Convention(MANY_BOOK, wholes=1, floats=2, slot=4, natural=False),
        Convention(MANY_BOOK, wholes=3, floats=1, again=True, slot=4, doubles="split"))


def plans_of(book, **common):
    """Conventions of a book that differ from the first one in one option each, and some that differ in several."""
    plain = Convention(book, **common)
    options = [{}, {"wholes": 1}, {"wholes": 3}, {"floats": 2}, {"wholes": 2, "floats": 2},
               {"wholes": 2, "floats": 1, "together": True}, {"wholes": 3, "doubles": "even"},
               {"wholes": 3, "doubles": "split"}, {"wholes": 1, "again": True}, {"slot": 4}, {"natural": False},
               {"slot": 4, "natural": False}, {"home": 16}, {"home": 32, "slot": 4}, {"wholes": 2, "tail": "slots"}]
    return [plain.changed(**each) for each in options]


# Conventions of a book that has kinds of all sorts; two of them have few joint states.
SORTS = Book(Kind("a", size=1, width=7), Kind("d", size=16, width=100, align=8), Kind("f", "float", size=4))
SORT_PLANS = plans_of(SORTS)


def signature_of(letters, book=BOOK):
    """A signature, with a dot for the mark."""
    return Signature(book, *["..." if letter == "." else letter for letter in letters])


def letters_after(signature):
    """The letters that may follow a signature, in sequence."""
    return signature.book.names() + ([] if signature.has_mark else ["..."])


def states_of(plans, signature):
    return tuple((plan >> signature).states()[-1] for plan in plans)


def state_key(plan):
    """All that the states depend on; fills are no part of it."""
    return (repr(plan.book.kinds()), plan.wholes, plan.floats, plan.together, plan.doubles, plan.again, plan.slot,
            plan.natural, plan.tail)


KNOWN_WAYS = {}


def first_ways(plans):
    """A dict: the states of these conventions that are reached together, with the first signatures that reach them."""
    key = tuple(state_key(plan) for plan in plans)
    if key not in KNOWN_WAYS:
        KNOWN_WAYS[key] = find_first_ways(plans)
    return KNOWN_WAYS[key]


def find_first_ways(plans):
    ways = {}
    fresh = [Signature(plans[0].book)]
    while fresh:
        longer = []
        for signature in fresh:
            if ways.setdefault(states_of(plans, signature), signature) == signature:
                longer.extend([signature + letter for letter in letters_after(signature)])
        fresh = longer
    return ways


def last_of(plan, signature):
    """The pieces and the cut fill of the last argument of a signature."""
    layout = plan >> signature
    return layout.pieces(len(layout) - 1), layout.fill(len(layout) - 1)


def fill_bits(plan, signature):
    """The bits of the cut fill of the last argument, each with its word."""
    fill = last_of(plan, signature)[1]
    width = plan.book.kind(signature.arguments()[-1]).width
    return [] if fill.word == "free" else [(bit, fill.word) for bit in range(width, fill.extent)]


def argument_bits(plan, signature, frame):
    """The bits of all pieces of each argument in a frame."""
    layout = plan >> signature
    rows = []
    for argument in range(len(layout)):
        rows.append([bit for piece in layout.pieces(argument) for bit in frame.bits_at(piece)])
    return rows


def put_argument_bits(plan, signature, frame, rows):
    """Puts rows of bits, cut to the pieces, into the pieces of each argument."""
    layout = plan >> signature
    for argument, row in enumerate(rows):
        for piece in layout.pieces(argument):
            frame.put(piece, row[:piece.bits])
            row = row[piece.bits:]


def resolve(parts, pointer):
    """The places that reads or writes mean, and the pointer behind them, by the words of [62]."""
    places = []
    for part in parts:
        if isinstance(part, Next):
            while pointer % part.align:
                pointer += 1
            part = Slots(pointer, part.many)
            pointer += part.many
        places.append(part)
    return places, pointer


class Walker:
    """An adapter on its way through a signature."""

    def __init__(self, adapter, signature):
        self.adapter = adapter
        self.state, self.reading, self.writing = 0, adapter.first.home, adapter.second.home
        self.passed = []
        for letter in signature.letters():
            self.go(letter)

    def go(self, letter):
        if letter == "...":
            self.state = self.adapter.mark(self.state)
            return
        step = self.adapter.step(self.state, letter)
        reads, self.reading = resolve(step.reads(), self.reading)
        writes, self.writing = resolve(step.writes(), self.writing)
        self.passed.append((letter, step, reads, writes))
        self.state = step.next_state


def row_of(frame, reads, writes, fills, width):
    """The row that is written, bit by bit; None stands for what is unknown."""
    row = []
    for place in reads:
        for bit in range(place.bits):
            if isinstance(place, Register):
                row.append(frame[place] >> bit & 1)
            else:
                byte = place.offset + bit // 8
                row.append(frame.area()[byte] >> bit % 8 & 1 if byte < frame.size else None)
    many = sum(place.bits for place in writes)
    row = [row[at] if at < len(row) else None for at in range(many)]
    for fill in fills:
        for at in range(width, min(fill.extent, many)):
            row[at] = 0 if fill.word == "zeros" else row[width - 1]
    return row


def run_by_hand(adapter, signature, frame, garbage):
    """The new frame of a run, by the words of [62] and [63]."""
    walker = Walker(adapter, signature)
    stream = [garbage[at % len(garbage)] if garbage else 0 for at in range(48 + walker.writing)]
    keys = [(group, number) for group in ("whole", "float") for number in range(3)]
    registers = {key: int.from_bytes(bytes(stream[8 * at:8 * at + 8]), "little") for at, key in enumerate(keys)}
    area = int.from_bytes(bytes(stream[48:]), "little")
    for name, step, reads, writes in walker.passed:
        row = row_of(frame, reads, writes, step.work.fills(), adapter.book.kind(name).width)
        for place in writes:
            for at in range(place.bits):
                bit = row.pop(0)
                if bit is None:
                    continue
                if isinstance(place, Register):
                    key = (place.group, place.number)
                    old = registers.get(key, 0)
                    registers[key] = old | 1 << at if bit else old & ~(1 << at)
                else:
                    where = 8 * place.offset + at
                    area = area | 1 << where if bit else area & ~(1 << where)
    return Frame(list(area.to_bytes(walker.writing, "little")), registers)


class Dice:
    """Numbers that look like chance and are the same in each run."""

    def __init__(self, seed):
        self.seed = seed

    def roll(self, sides):
        self.seed = (self.seed * 6364136223846793005 + 1442695040888963407) % 2 ** 64
        return (self.seed >> 33) % sides

    def pick(self, things):
        return things[self.roll(len(things))]

    def place(self):
        if self.roll(2):
            return Register(self.pick(("whole", "float")), self.roll(4))
        return Next(self.pick((1, 2, 4, 8, 16)), self.pick((1, 2, 3, 4, 5, 8, 16)))

    def places(self):
        return [self.place() for _ in range(1 + self.roll(2))]

    def fill(self):
        return Fill(self.pick(("zeros", "sign")), self.pick((3, 5, 9, 16, 24, 40, 64, 100, 128)))

    def work(self):
        return Work(*[self.fill() for _ in range(self.roll(4))])

    def convention(self, book):
        """Any convention of a book."""
        fills = {name: Fill(self.pick(("zeros", "sign")), self.pick((9, 16, 24, 32, 64, 100, 128)))
                 for name in book.names() if self.roll(2)}
        return Convention(book, wholes=self.roll(4), floats=self.roll(4), together=self.roll(2) == 1,
                          doubles=self.pick(("whole", "even", "split")), again=self.roll(2) == 1, slot=self.pick((4, 8)),
                          natural=self.roll(2) == 1, home=self.pick((0, 0, 16, 32)), tail=self.pick(("same", "slots")),
                          fills=fills)

    def signature(self, book, many):
        """Any signature with so many letters, often with the mark."""
        letters = [self.pick(book.names()) for _ in range(many)]
        if many > 0 and self.roll(2):
            letters[self.roll(many)] = "..."
        return Signature(book, *letters)

    def frame(self, most=80):
        """Any frame with an area that is not too long."""
        registers = {(group, number): self.roll(2 ** 31) * self.roll(2 ** 31) * 3 + self.roll(2)
                     for group in ("whole", "float") for number in range(8) if self.roll(3)}
        return Frame([self.roll(256) for _ in range(self.roll(most))], registers)

    def adapter(self, first, second, many):
        """Any adapter with so many states, right or wrong."""
        states = [{name: Step(self.places(), self.work(), self.places(), self.roll(many)) for name in first.book.names()}
                  for _ in range(many)]
        return Adapter(first, second, states, [self.roll(many) for _ in range(many)])
