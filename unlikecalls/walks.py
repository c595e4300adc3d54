"""Walks through the joint states of conventions, by all letters that may follow [51]."""

from unlikecalls.conventions import check_convention
from unlikecalls.errors import TooMany
from unlikecalls.kinds import check_one_book
from unlikecalls.machines import CODES, state_of
from unlikecalls.signatures import Signature

MOST_JOINT_STATES = 400


class JointWalk:
    """The joint states of some conventions, numbered as signatures in order reach them.

    rows has for each of them the edges of the letters that may follow, in their sequence: tuples of the moves of all
    conventions and the number of the joint state behind.
    """

    def __init__(self, plans):
        self._book = plans[0].book
        self._breadth = len(plans)
        self.alphabet = [*self._book.names(), Signature.MARK]
        # The codes of the states of each one, as one number.
        self.reached = [0]
        # The edge by which each one was reached first: the number of another one, and the number of a letter.
        self.origins = [None]
        self.rows = []
        self.is_cut = False
        # What else was found out of these joint states, by words and numbers.
        self.notes = {}

    def joint_state(self, key):
        """The tuple of states that is told by this key."""
        states = []
        for _ in range(self._breadth):
            states.append(state_of(key % CODES))
            key = key // CODES
        return tuple(states[::-1])

    def states_in_sequence(self):
        """All joint states, sorted, in a new list."""
        if "sorted" not in self.notes:
            in_order = sorted([int(key) for key in self.reached])
            self.notes["sorted"] = [self.joint_state(key) for key in in_order]
        return list(self.notes["sorted"])

    def numbers_of_states(self):
        """A dict from the joint states to their numbers; it is not changed."""
        if "numbers" not in self.notes:
            self.notes["numbers"] = {self.joint_state(key): number for number, key in enumerate(self.reached)}
        return self.notes["numbers"]

    def way_to(self, number):
        """The letters of the first signature that leads to a joint state."""
        return letters_to(self.origins, self.alphabet, number)

    def signature_of(self, letters):
        """A signature of the book of the conventions."""
        return Signature(self._book, *letters)


def letters_to(origins, alphabet, number):
    """The letters by which something was reached, if origins tells by which number and letter each was reached."""
    letters = []
    while origins[number] is not None:
        number, rank = origins[number]
        letters.append(alphabet[rank])
    return letters[::-1]


def walk_both(first, second):
    """The walk through the joint states of two conventions, which are checked."""
    check_convention(first)
    check_convention(second)
    check_one_book([first, second])
    machine = first.machine()
    walk = machine.kept_walk(second.parts())
    if walk is None:
        walk = walk_together([first, second])
        machine.keep_walk(second.parts(), walk)
    check_walk(walk)
    return walk


def walk_together(plans):
    """The walk through the joint states of these conventions; it is cut where there are too many."""
    walk = JointWalk(plans)
    machines = [plan.machine() for plan in plans]
    numbers = {0: 0}
    codes = [[0] * len(plans)]
    while len(walk.rows) < len(codes) <= MOST_JOINT_STATES:
        number = len(walk.rows)
        moves = [machine.moves(code) for machine, code in zip(machines, codes[number])]
        row = []
        for rank, steps in enumerate(zip(*moves)):
            key = 0
            for step in steps:
                key = key * CODES + step[1]
            if key not in numbers:
                numbers[key] = len(codes)
                codes.append([step[1] for step in steps])
                walk.reached.append(key)
                walk.origins.append((number, rank))
            row.append((steps, numbers[key]))
        walk.rows.append(row)
    walk.is_cut = len(codes) > MOST_JOINT_STATES
    return walk


def check_walk(walk):
    """Refuses a walk that was cut."""
    if walk.is_cut:
        raise TooMany("joint states", MOST_JOINT_STATES)
