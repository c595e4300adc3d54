"""The desk: things under names, changes that are undone, and commands [94]."""

from tests.helpers import (
    ALIEN, BOOK, MANY, MANY_BOOK, NO_COUNTS, NO_STRINGS, OVER, PLANS, WIDE, WIDE_PLANS, Dice, RaisingTest, signature_of,
)
from tests.test_joining import told_ring, wide_ring
from unlikecalls.adapters import Adapter
from unlikecalls.conventions import Convention
from unlikecalls.desk import Desk
from unlikecalls.errors import (
    CommandFailed, InvalidBook, InvalidCommand, InvalidName, InvalidThing, NothingToUndo, NotRight, OtherBook,
    OtherConvention, TooMany, UnknownThing,
)
from unlikecalls.fills import Work
from unlikecalls.judging import first_wrong
from unlikecalls.kinds import Book, Kind
from unlikecalls.leads import least_room
from unlikecalls.places import Next
from unlikecalls.sides import first_lost, first_unlike
from unlikecalls.steps import Step

SLOTS = PLANS[0]
COPY = Step([Next(8, 8)], Work(), [Next(8, 8)])
WRONG = Adapter(SLOTS, SLOTS, [{"a": COPY, "w": COPY}, {"a": COPY, "w": Step([Next(8, 4)], Work(), [Next(8, 8)])}], [1, 0])
# Things of the book, and values of other kinds.
THINGS = [*PLANS, told_ring(2, Work()), Adapter.made(PLANS[1], PLANS[2]), WRONG]
NO_NAMES = [*NO_STRINGS, "", "A", "abcdefghi", "a1", "a b", " a", "a ", "...", "_", "aB"]
NO_THINGS = [*NO_COUNTS, 0, BOOK, COPY, signature_of("a"), "plan", [SLOTS], {"a": SLOTS}, Desk(BOOK)]


def filled_desk():
    """A desk with some things, and what it holds."""
    desk, things = Desk(BOOK), {}
    for name, thing in zip(("one", "two", "three", "ring", "made", "bad"), (PLANS[1], PLANS[2], PLANS[6], *THINGS[-3:])):
        desk[name] = thing
        things[name] = thing
    return desk, things


class DeskTest(RaisingTest):

    def check_desk(self, desk, things, changes):
        """The desk holds just these things, and so many changes can be undone."""
        self.assertEqual(desk.names(), sorted(things))
        self.assertEqual((len(desk), desk.changes, desk.book), (len(things), changes, BOOK))
        for name in things:
            self.assertEqual(desk[name], things[name])
            self.assertIs(name in desk, True)
        for name in ("none", "x", *NO_NAMES):
            self.assertIs(name in desk, False)
            self.check_raises(UnknownThing, {"value": name}, lambda: desk[name])

    def check_same(self, one, other):
        self.assertEqual((one.names(), one.changes, one.book), (other.names(), other.changes, other.book))
        for name in one.names():
            self.assertEqual(one[name], other[name])


class ThingsTest(DeskTest):

    def test_empty(self):
        desk = Desk(book=BOOK)
        self.check_desk(desk, {}, 0)
        self.check_raises(NothingToUndo, {}, desk.undo)
        self.check_raises(NothingToUndo, {}, desk.do, "undo")
        self.check_read_only(desk, ("book", "changes"))

    def test_wrong_books(self):
        for value in (*NO_STRINGS, "book", Kind("a"), SLOTS):
            self.check_raises(InvalidBook, {"value": value}, Desk, value)
            self.check_raises(InvalidBook, {"value": value}, Desk, book=value)

    def test_beside_a_dict(self):
        """What is set, replaced, dropped and undone, beside a plain dict and a list of dicts."""
        dice, desk, things, before = Dice(15), Desk(BOOK), {}, []
        for number in range(290):
            action, name, thing = dice.roll(8), dice.pick(("a", "b", "cc", "abcdefgh", "z")), dice.pick(THINGS)
            if action < 3:
                before.append(dict(things))
                things[name] = thing
                if number % 2:
                    desk[name] = thing
                else:
                    self.assertIsNone(desk.put(name, thing))
            elif action < 5 and name in things:
                before.append(dict(things))
                del things[name]
                if number % 2:
                    self.assertIsNone(desk.drop(name))
                else:
                    self.assertEqual(desk.do(f"drop {name}"), "done")
            elif action < 5:
                self.check_raises(UnknownThing, {"value": name}, desk.drop, name)
                self.check_raises(UnknownThing, {"value": name}, desk.do, f"drop {name}")
            elif before:
                things = before.pop()
                if number % 2:
                    self.assertIsNone(desk.undo())
                else:
                    self.assertEqual(desk.do("undo"), "done")
            self.check_desk(desk, things, len(before))
        while before:
            things = before.pop()
            desk.undo()
            self.check_desk(desk, things, len(before))
        self.check_raises(NothingToUndo, {}, desk.undo)

    def test_equal_things(self):
        desk = Desk(BOOK)
        for _ in range(3):
            desk["a"] = Convention(BOOK)
        self.check_desk(desk, {"a": SLOTS}, 3)
        desk.undo()
        self.check_desk(desk, {"a": SLOTS}, 2)
        desk["a"] = PLANS[1]
        desk.undo()
        desk.undo()
        self.check_desk(desk, {"a": SLOTS}, 1)
        desk.undo()
        self.check_desk(desk, {}, 0)

    def test_equal_books(self):
        desk = Desk(Book(Kind("a", size=1), Kind("w")))
        desk.put(name="a", thing=SLOTS)
        desk.put(thing=WRONG, name="b")
        self.assertEqual((desk.names(), desk["a"], desk["b"]), (["a", "b"], SLOTS, WRONG))

    def test_wrong_names_and_things(self):
        desk, things = filled_desk()
        alien, foreign = Convention(ALIEN), Adapter.made(WIDE_PLANS[0], WIDE_PLANS[0])
        for name in NO_NAMES:
            for thing in (SLOTS, None, alien):
                self.check_raises(InvalidName, {"value": name}, desk.put, name, thing)
                self.check_raises(InvalidName, {"value": name}, desk.__setitem__, name, thing)
            self.check_raises(UnknownThing, {"value": name}, desk.drop, name)
        for thing in NO_THINGS:
            self.check_raises(InvalidThing, {"value": thing}, desk.put, "one", thing)
            self.check_raises(InvalidThing, {"value": thing}, desk.__setitem__, "fresh", thing)
        for thing, book in ((alien, ALIEN), (foreign, WIDE), (MANY[0], MANY_BOOK)):
            self.check_raises(OtherBook, {"one": BOOK, "other": book}, desk.put, "one", thing)
            self.check_raises(OtherBook, {"one": BOOK, "other": book}, desk.__setitem__, "fresh", thing)
        self.check_raises(UnknownThing, {"value": "fresh"}, desk.drop, name="fresh")
        self.check_desk(desk, things, 6)

    def test_lists_are_new(self):
        desk, things = filled_desk()
        desk.names().clear()
        self.check_desk(desk, things, 6)

    def test_not_iterated_over(self):
        with self.assertRaises(TypeError):
            iter(Desk(BOOK))


class CommandTest(DeskTest):

    def test_make_join_merge(self):
        desk, things = filled_desk()
        self.assertEqual(desk.do("make m one two"), "done")
        things["m"] = Adapter.made(PLANS[1], PLANS[2])
        self.assertEqual((desk["m"].first, desk["m"].second, first_wrong(desk["m"])), (PLANS[1], PLANS[2], None))
        self.assertTrue(desk["m"].is_same(things["m"]))
        self.assertEqual(desk.do(command="make n two three"), "done")
        self.assertEqual(desk.do("join j m n"), "done")
        self.assertEqual(desk["j"], desk["m"].then(desk["n"]))
        self.assertEqual(desk.do("merge s j"), "done")
        self.assertEqual(desk["s"], desk["j"].merged())
        self.assertEqual(desk.do("merge j j"), "done")
        self.assertEqual(desk["j"], desk["s"])
        self.assertEqual((desk.changes, len(desk)), (11, 10))
        # A name that is set may be one of those that are asked for, and may be of another class.
        self.assertEqual(desk.do("make one one two"), "done")
        self.assertTrue(isinstance(desk["one"], Adapter))
        self.assertEqual(desk.do("undo"), "done")
        self.assertEqual(desk["one"], PLANS[1])
        for _ in range(5):
            desk.do("undo")
        self.check_desk(desk, {name: things[name] for name in things if name != "m"}, 6)

    def test_verdict(self):
        desk, _ = filled_desk()
        self.assertEqual([desk.do(f"verdict {name}") for name in ("ring", "made", "bad")], ["right", "right", "... w"])
        late = [{"a": Step([Next(8, 8)], Work(), [Next(8, 8)], 1), "w": COPY}, {"a": COPY, "w": Step([Next(8, 8)], Work(), [Next(4, 4)])}]
        desk["late"] = Adapter(SLOTS, SLOTS, late, [0, 0])
        self.assertEqual(desk.do("verdict late"), "a w")
        self.assertEqual(desk.changes, 7)

    def test_questions(self):
        desk = Desk(BOOK)
        names = ["abcdefghi"[:at + 1] for at in range(len(PLANS) - 1)]
        for name, plan in zip(names, PLANS):
            desk[name] = plan
        for one in names:
            for other in names:
                first, second = desk[one], desk[other]
                unlike, lost = first_unlike(first, second), first_lost(first, second)
                self.assertEqual(desk.do(f"alike {one} {other}"), "yes" if unlike is None else " ".join(unlike.letters()))
                self.assertEqual(desk.do(f"copies {one} {other}"), "yes" if lost is None else " ".join(lost[0].letters()))
                for word, room in (("room", least_room(first, second)), ("back", least_room(first, second, backward=True))):
                    self.assertEqual(desk.do(f"{word} {one} {other}"), "none" if room is None else str(room))
        self.check_desk(desk, dict(zip(names, PLANS)), len(names))

    def test_example(self):
        desk = Desk(BOOK)
        desk["one"] = Convention(BOOK, wholes=1)
        desk["two"] = Convention(BOOK, slot=4)
        found = desk.do_all("make m one two", "verdict m", "alike one two", "copies one two", "room one two", "back one two")
        self.assertEqual(found, ["done", "right", "a", "yes", "8", "none"])

    def test_no_commands(self):
        desk, things = filled_desk()
        none = [*NO_STRINGS, "", " ", "drop", "undo ", " undo", "undo one", "undo  ", "Undo", "drop one two", "drop  one", "drop one ",
                " drop one", "drop One", "drop one1", "drop abcdefghi", "drop ...", "make", "make m", "make m one", "make m one two ring",
                "make M one two", "make m one  two", "make m one\ntwo", "join j ring", "join j", "merge s", "merge s ring ring", "merge S ring",
                "merge s Ring", "verdict", "verdict ring ring", "verdict RING", "alike one", "alike one two three", "alike", "copies one",
                "room one", "room one two 3", "room one 2", "back", "back one", "back one two ", "put a one", "one", "names", "room", "done",
                "drop\tone", "drop,one", ["drop", "one"], ("undo",), b"undo", "undo\n", "\nundo", "makem one two"]
        for value in none:
            self.check_raises(InvalidCommand, {"value": value}, desk.do, value)
            self.check_raises(InvalidCommand, {"value": value}, desk.do, command=value)
        self.check_desk(desk, things, 6)

    def test_missing_things(self):
        desk, things = filled_desk()
        rows = (("drop x", "x"), ("make m x y", "x"), ("make m one y", "y"), ("make x x two", "x"), ("join j x y", "x"), ("join j ring y", "y"),
                ("join j one y", "y"), ("merge s x", "x"), ("merge s s", "s"), ("verdict x", "x"), ("alike x y", "x"), ("alike ring y", "y"),
                ("copies one y", "y"), ("room x one", "x"), ("back one y", "y"), ("make m ring y", "y"), ("room ring y", "y"))
        for command, name in rows:
            self.check_raises(UnknownThing, {"value": name}, desk.do, command)
        self.check_desk(desk, things, 6)

    def test_things_of_the_wrong_class(self):
        desk, things = filled_desk()
        rows = (("make m ring two", "ring"), ("make m one ring", "ring"), ("make m ring made", "ring"), ("join j one ring", "one"),
                ("join j ring one", "one"), ("join j one two", "one"), ("merge s one", "one"), ("verdict two", "two"), ("alike ring one", "ring"),
                ("alike one ring", "ring"), ("copies made one", "made"), ("room one bad", "bad"), ("back bad bad", "bad"), ("copies one made", "made"))
        for command, name in rows:
            self.check_raises(InvalidThing, {"value": name}, desk.do, command)
        self.check_desk(desk, things, 6)

    def test_errors_of_the_functions(self):
        desk, things = filled_desk()
        self.check_raises(OtherConvention, {"one": PLANS[2], "other": PLANS[1]}, desk.do, "join j made made")
        self.check_raises(NotRight, {"witness": first_wrong(WRONG)}, desk.do, "join j ring bad")
        self.check_raises(NotRight, {"witness": first_wrong(WRONG)}, desk.do, "join bad bad ring")
        self.check_desk(desk, things, 6)
        many = Desk(MANY[0].book)
        many["one"], many["other"] = MANY
        for command in ("make m one other", "alike one other", "copies other one", "room one other", "back one other"):
            self.check_raises(TooMany, {"what": "joint states", "limit": 400}, many.do, command)
        self.assertEqual((many.names(), many.changes), (["one", "other"], 2))
        adapter = wide_ring(249)
        wide = Desk(adapter.book)
        wide["m"] = adapter
        for command in ("verdict m", "join m m m"):
            self.check_raises(TooMany, {"what": "entries", "limit": 1000}, wide.do, command)
        self.assertEqual((wide["m"], wide.changes), (adapter, 1))

    def test_names_like_words_of_commands(self):
        desk = Desk(BOOK)
        desk["undo"], desk["drop"] = PLANS[1], PLANS[2]
        self.assertEqual(desk.do_all("make make undo drop", "verdict make", "drop drop", "undo", "undo"), ["done", "right", "done", "done", "done"])
        self.check_desk(desk, {"undo": PLANS[1], "drop": PLANS[2]}, 2)


class SeveralTest(DeskTest):

    def test_do_all(self):
        desk, things = filled_desk()
        self.assertEqual(desk.do_all(), [])
        found = desk.do_all("make m one two", "drop one", "verdict m", "undo", "undo", "alike one one")
        self.assertEqual((found, type(found)), (["done", "done", "right", "done", "done", "yes"], list))
        self.check_desk(desk, things, 6)

    def test_errors(self):
        rows = (("drop x", UnknownThing), ("drop", InvalidCommand), (5, InvalidCommand), ("make m ring one", InvalidThing),
                ("join j made made", OtherConvention), ("join j ring bad", NotRight), (None, InvalidCommand))
        right = ["make m one two", "drop three", "undo", "undo", "merge ring ring"]
        for command, error in rows:
            for position in range(len(right) + 1):
                desk, things = filled_desk()
                commands = right[:position] + [command] + right[position:]
                for function in (desk.do_all, desk.attempt):
                    self.check_raises(CommandFailed, {"position": position}, function, *commands)
                    self.check_desk(desk, things, 6)
                    try:
                        function(*commands)
                    except CommandFailed as failed:
                        self.assertIs(type(failed.__cause__), error)
        desk, things = filled_desk()
        self.check_raises(CommandFailed, {"position": 6}, desk.do_all, *["undo"] * 7)
        self.check_raises(CommandFailed, {"position": 2}, desk.do_all, "undo", "drop ring", "verdict ring")
        self.check_desk(desk, things, 6)
        desk.undo()
        self.check_desk(desk, {name: things[name] for name in things if name != "bad"}, 5)

    def test_causes(self):
        desk, _ = filled_desk()
        try:
            desk.do_all("undo", "drop two", "verdict x", "drop")
        except CommandFailed as failed:
            self.assertEqual((failed.position, type(failed.__cause__), failed.__cause__.value), (2, UnknownThing, "x"))
        else:
            self.fail("no error")

    def test_undo_within(self):
        desk, things = filled_desk()
        self.assertEqual(desk.do_all(*["undo"] * 6), ["done"] * 6)
        self.check_desk(desk, {}, 0)
        desk, things = filled_desk()
        self.assertEqual(desk.do_all("drop one", "undo", "undo", "make bad one two"), ["done"] * 4)
        self.assertIsNone(first_wrong(desk["bad"]))
        self.assertEqual(desk.changes, 6)
        desk.undo()
        self.check_desk(desk, {name: things[name] for name in things if name != "bad"}, 5)

    def test_copies(self):
        desk, things = filled_desk()
        other = desk.copy()
        self.assertIs(type(other), Desk)
        self.check_same(desk, other)
        other.do_all("drop one", "drop two")
        other["z"] = SLOTS
        self.check_desk(desk, things, 6)
        self.check_desk(other, {**{name: things[name] for name in things if name not in ("one", "two")}, "z": SLOTS}, 9)
        desk.undo()
        self.assertEqual((other.changes, desk.changes), (9, 5))
        for _ in range(9):
            other.undo()
        self.check_desk(other, {}, 0)
        self.check_desk(desk, {name: things[name] for name in things if name != "bad"}, 5)
        self.check_same(Desk(BOOK), Desk(BOOK).copy())

    def test_attempt(self):
        desk, things = filled_desk()
        for commands in ((), ("undo",) * 6, ("make m one two", "verdict m", "drop one"), ("room one two", "back one two")):
            copied = desk.copy()
            self.assertEqual(desk.attempt(*commands), copied.do_all(*commands))
            self.check_desk(desk, things, 6)

    def test_tried(self):
        desk, things = filled_desk()
        seen = []

        def action(other):
            seen.append(other)
            self.check_desk(other, things, 6)
            other.do_all("undo", "undo", "drop one")
            other.put("fresh", SLOTS)
            return [other.names(), 7]

        self.assertEqual(desk.tried(action), [["fresh", "ring", "three", "two"], 7])
        self.assertFalse(seen[0] is desk)
        self.check_desk(desk, things, 6)
        self.assertIsNone(desk.tried(action=lambda other: other.undo()))

        class OwnError(Exception):
            pass

        def fail(other):
            other.undo()
            raise OwnError()

        with self.assertRaises(OwnError):
            desk.tried(fail)
        self.check_raises(UnknownThing, {"value": "x"}, desk.tried, lambda other: other.drop("x"))
        self.check_desk(desk, things, 6)

    def test_many_changes(self):
        desk = Desk(BOOK)
        for number in range(280):
            desk["a"] = PLANS[number % 9]
        self.assertEqual((desk.changes, desk["a"]), (280, PLANS[279 % 9]))
        desk.do_all(*["undo"] * 279)
        self.check_desk(desk, {"a": PLANS[0]}, 1)
        self.assertNotEqual(OVER[0].book, BOOK)
