"""Leads: how much further the offset of a second convention is than that of a first one [81], [83]."""

from unlikecalls.basics import is_integer
from unlikecalls.conventions import check_convention
from unlikecalls.kinds import check_one_book
from unlikecalls.layouts import OFFSET_MODULUS
from unlikecalls.machines import CODES
from unlikecalls.signatures import MOST_LETTERS, Signature, check_signature
from unlikecalls.walks import letters_to, walk_both

# What is greatest for leads with one sign is least for those with the other one.
GREATEST = 1
LEAST = -1


def lead(first, second, signature):
    """The lead of a signature."""
    check_sides(first, second, signature)
    return lead_of(first, second, signature)


def greatest_lead(first, second):
    """The greatest lead of all signatures; None if there is none."""
    return climb_of(first, second, GREATEST).highest()


def least_lead(first, second):
    """The least lead of all signatures; None if there is none."""
    lowest = climb_of(first, second, LEAST).highest()
    return None if lowest is None else -lowest


def least_room(first, second, *, backward=False):
    """The least room that is enough for all signatures in this direction; None if no room is."""
    needed = climb_of(first, second, LEAST if backward else GREATEST).highest()
    return None if needed is None else max(0, needed)


def heights(first, second):
    """The least heights, a dict from the joint states; None if there are no heights."""
    return bounds(first, second, GREATEST)


def depths(first, second):
    """The greatest depths, a dict from the joint states; None if there are no depths."""
    return bounds(first, second, LEAST)


def lead_signature(first, second):
    """The first signature with the greatest lead; None if there is no greatest lead."""
    walk = walk_both(first, second)
    climb = climb_of(first, second, GREATEST)
    if climb.ring is not None:
        return None
    highest = climb.highest()
    # Each beginning of a signature with the greatest lead has the greatest one of its joint state.
    origins = {0: None}
    queue = [0]
    at = 0
    while climb.tops[queue[at]] != highest:
        number = queue[at]
        at += 1
        for rank, (behind, rise) in enumerate(climb.edges[number]):
            if behind not in origins and climb.tops[behind] == climb.tops[number] + rise:
                origins[behind] = (number, rank)
                queue.append(behind)
    return walk.signature_of(letters_to(origins, walk.alphabet, queue[at]))


def rising_ring(first, second):
    """A way and a ring of letters that makes the lead greater; None if there is none."""
    return way_and_ring(first, second, GREATEST)


def falling_ring(first, second):
    """A way and a ring of letters that makes the lead less; None if there is none."""
    return way_and_ring(first, second, LEAST)


def is_heights(first, second, value):
    """Whether value is right as heights."""
    return are_bounds(first, second, value, GREATEST)


def is_depths(first, second, value):
    """Whether value is right as depths."""
    return are_bounds(first, second, value, LEAST)


def is_rising(first, second, value):
    """Whether value is a rising ring."""
    walk_both(first, second)
    if not isinstance(value, tuple) or len(value) != 2:
        return False
    way, ring = value
    if not is_signature_of(first.book, way) or not is_signature_of(first.book, ring):
        return False
    # From behind the mark no letter leads back.
    if len(way) + len(ring) > MOST_LETTERS or ring.has_mark:
        return False
    whole = way + ring
    for plan in (first, second):
        if (plan >> way).states()[-1] != (plan >> whole).states()[-1]:
            return False
    return lead_of(first, second, whole) > lead_of(first, second, way)


def check_sides(first, second, signature):
    """Refuses what are no conventions, no signature, or not of one book."""
    check_convention(first)
    check_convention(second)
    check_signature(signature)
    check_one_book([first, second, signature])


def is_signature_of(book, value):
    """Whether value is a signature of this book."""
    return isinstance(value, Signature) and value.book == book


def lead_of(first, second, signature):
    """The lead of a signature, where all are of one book."""
    return (second >> signature).end - (first >> signature).end


class Climb:
    """The greatest leads, all taken by one sign, by which each joint state of a walk is reached.

    edges has for each joint state the tuples of the one behind a letter and of what the letter adds to the lead.
    ring is a tuple of a joint state and of the letters, by their numbers, that lead back to it with a greater lead;
    if there is none, it is None, and tops has the greatest leads.
    """

    def __init__(self, walk, start, sign):
        self.edges = [[(behind, sign * rise_by(moves)) for moves, behind in row] for row in walk.rows]
        self._origins = list(walk.origins)
        # At first the leads of the first signatures.
        self.tops = [sign * start]
        for number, rank in self._origins[1:]:
            self.tops.append(self.tops[number] + self.edges[number][rank][1])
        self.ring = None
        for members in parts_of_walk(walk):
            if self.ring is None:
                self.settle(members)

    def highest(self):
        """The greatest of all; None if there is none."""
        if self.ring is not None:
            return None
        return max([int(top) for top in self.tops])

    def settle(self, members):
        """Finds the greatest leads of one part, all parts ahead of which are settled."""
        raised = members[0]
        rounds = 0
        # Without a ring, no way within the part has more letters than members.
        while raised is not None and rounds <= len(members):
            raised = None
            for number in members:
                if self.raise_behind(number):
                    raised = number
            rounds += 1
        if raised is not None:
            self.ring = self.ring_at(raised, len(members))

    def raise_behind(self, number):
        """Takes over what is greater by way of this joint state; whether something is."""
        is_raised = False
        for rank, (behind, rise) in enumerate(self.edges[number]):
            if self.tops[number] + rise > self.tops[behind]:
                self.tops[behind] = self.tops[number] + rise
                self._origins[behind] = (number, rank)
                is_raised = True
        return is_raised

    def ring_at(self, number, many):
        """The ring that so many letters lead to, backwards from a joint state."""
        for _ in range(many):
            number = self._origins[number][0]
        ring = []
        at = number
        while not ring or at != number:
            at, rank = self._origins[at]
            ring.append((at, rank))
        ring = ring[::-1]
        # It begins where it is reached first.
        begin = min([int(reached) for reached, _ in ring])
        while ring[0][0] != begin:
            ring = ring[1:] + ring[:1]
        return begin, [rank for _, rank in ring]


def rise_by(moves):
    """What the moves of both conventions add to the lead."""
    return moves[1][0].growth - moves[0][0].growth


def parts_of_walk(walk):
    """The numbers of the joint states, in parts: letters lead only within a part, and to later ones.

    No letter makes less of what a state tells but the offset. So the joint states with equal numbers of this kind are a
    part, and those with lesser ones come earlier.
    """
    parts = {}
    for number, key in enumerate(walk.reached):
        code, other_code = key // CODES, key % CODES
        taken = code // OFFSET_MODULUS * CODES + other_code // OFFSET_MODULUS
        parts.setdefault(taken, []).append(number)
    in_order = sorted([int(one) for one in parts])
    return [parts[one] for one in in_order]


def climb_of(first, second, sign):
    """The climb for two conventions, which are checked, kept with their walk."""
    walk = walk_both(first, second)
    if sign not in walk.notes:
        walk.notes[sign] = Climb(walk, second.home - first.home, sign)
    return walk.notes[sign]


def bounds(first, second, sign):
    """Heights or depths, whichever the sign tells, that are as near to the leads as possible."""
    walk = walk_both(first, second)
    climb = climb_of(first, second, sign)
    if climb.ring is not None:
        return None
    return {state: sign * climb.tops[number] for state, number in walk.numbers_of_states().items()}


def way_and_ring(first, second, sign):
    """A way and a ring that makes the lead greater by this sign; None if there is none."""
    walk = walk_both(first, second)
    ring = climb_of(first, second, sign).ring
    if ring is None:
        return None
    number, ranks = ring
    return walk.signature_of(walk.way_to(number)), walk.signature_of([walk.alphabet[rank] for rank in ranks])


def are_bounds(first, second, value, sign):
    """Whether value is right as heights or depths, whichever the sign tells."""
    climb = climb_of(first, second, sign)
    numbers = walk_both(first, second).numbers_of_states()
    if not isinstance(value, dict) or len(value) != len(numbers):
        return False
    tops = [0] * len(numbers)
    for state, bound in value.items():
        if state not in numbers or not are_integers(state) or not is_integer(bound):
            return False
        tops[numbers[state]] = sign * bound
    if tops[0] < sign * (second.home - first.home):
        return False
    for number, row in enumerate(climb.edges):
        for behind, rise in row:
            if tops[behind] < tops[number] + rise:
                return False
    return True


def are_integers(states):
    """Whether all numbers in a tuple of tuples are INTEGERS, not only equal to such."""
    return all([is_integer(number) for state in states for number in state])
