"""Blind adapters, which do not know the kinds of a tail: whether they pass on all tails [91]."""

from unlikecalls.conventions import check_convention
from unlikecalls.errors import InvalidSignature
from unlikecalls.kinds import check_one_book
from unlikecalls.leads import is_signature_of, lead_of, rise_by
from unlikecalls.machines import CODES, code_of
from unlikecalls.sides import is_lost
from unlikecalls.signatures import Signature, check_signature
from unlikecalls.walks import letters_to, walk_both


def tail_fault(first, second):
    """Two signatures with one named part for which no one shift is right; None if all tails are passed on."""
    walk = walk_both(first, second)
    tails = tails_of(walk)
    for number, row in enumerate(walk.rows):
        if len(row) > tails.many_kinds and tails.is_bad[row[-1][1]]:
            named = [*walk.way_to(number), Signature.MARK]
            return tuple([walk.signature_of(named + tail) for tail in tails.fault_behind(row[-1][1])])
    return None


def tail_shift(first, second, signature):
    """The shift that is right for all tails behind the named part of a signature; None if there is none."""
    check_convention(first)
    check_convention(second)
    check_signature(signature)
    if not signature.has_mark:
        raise InvalidSignature(signature)
    check_one_book([first, second, signature])
    walk = walk_both(first, second)
    tails = tails_of(walk)
    named = signature.named()
    code, other_code = [code_of((plan >> named).states()[-1]) for plan in (first, second)]
    number = walk.reached.index(code * CODES + other_code)
    if tails.is_bad[number]:
        return None
    return lead_of(first, second, named) + tails.shifts[number]


def is_tail_fault(first, second, value):
    """Whether value is a tuple of two signatures with one named part for which no one shift is right."""
    walk_both(first, second)
    if not isinstance(value, tuple) or len(value) != 2:
        return False
    if not all([is_signature_of(first.book, one) and one.has_mark for one in value]):
        return False
    if value[0].named() != value[1].named():
        return False
    shifts = [*shifts_wanted(first, second, value[0]), *shifts_wanted(first, second, value[1])]
    return any([shift is None or shift != shifts[0] for shift in shifts])


def shifts_wanted(first, second, signature):
    """The shifts that are right for the arguments of a tail that have slots; None for those that none is right for."""
    layout, other = first >> signature, second >> signature
    shifts = []
    for argument in range(len(signature.named()) - 1, len(layout)):
        pieces = [piece.code() for piece in layout.pieces(argument)]
        other_pieces = [piece.code() for piece in other.pieces(argument)]
        if not layout.fill(argument).covers(other.fill(argument)):
            shifts.append(None)
        else:
            shifts.extend(shifts_between(pieces, other_pieces))
    return shifts


def shifts_between(codes, other_codes):
    """The shift between the slots of two rows of pieces, told by their codes; None stands for unlike pieces."""
    if len(codes) != len(other_codes):
        return [None]
    shifts = []
    for (begin, many), (other_begin, other_many) in zip(codes, other_codes):
        if many == 0 or other_many == 0:
            # Registers, whose codes have 0 here, are equal or unlike.
            if (begin, many) != (other_begin, other_many):
                return [None]
        else:
            shifts.append(other_begin - begin)
    return shifts


class Tails:
    """What can follow the mark, from each joint state of a walk on.

    shifts has for each joint state behind the mark the shift that one tail wants, that of arguments of the first kind
    alone, if the offsets are equal there; None if no shift is right for this tail. is_bad tells whether there is a tail
    for which this shift is not right.
    """

    def __init__(self, walk):
        self.many_kinds = len(walk.alphabet) - 1
        self.shifts = []
        self._walk = walk
        # How many letters of the first kind the tail has that wants the shift.
        self._lengths = []
        for number, row in enumerate(walk.rows):
            shift, length = (None, 0) if len(row) > self.many_kinds else self.first_shift(number)
            self.shifts.append(shift)
            self._lengths.append(length)
        self._flaws = [self.flaw_at(number) for number in range(len(walk.rows))]
        self.is_bad = self.all_that_lead_to_flaws()

    def first_shift(self, number):
        """The shift wanted by the first slots of a tail of arguments of the first kind, and how many these are."""
        length = 1
        moves, behind = self._walk.rows[number][0]
        shifts = shifts_there(moves)
        # Registers move no offset, and at last there are none left.
        while not shifts:
            length += 1
            moves, behind = self._walk.rows[behind][0]
            shifts = shifts_there(moves)
        return shifts[0], length

    def flaw_at(self, number):
        """Two tails, letters by numbers, that want unlike shifts, for one letter at the most behind this joint state;
        None if there are none.
        """
        row = self._walk.rows[number]
        if len(row) > self.many_kinds:
            return None
        begun = [0] * self._lengths[number]
        if self.shifts[number] is None:
            return begun, begun
        for rank, (moves, behind) in enumerate(row):
            if any([shift != self.shifts[number] for shift in shifts_there(moves)]):
                return begun, [rank]
            later = self.shifts[behind]
            if later is not None and rise_by(moves) + later != self.shifts[number]:
                return begun, [rank] + [0] * self._lengths[behind]
        return None

    def all_that_lead_to_flaws(self):
        """For each joint state whether it has a flaw, or letters lead from it to one with a flaw."""
        sources = [[] for _ in self._walk.rows]
        for number, row in enumerate(self._walk.rows):
            for _, behind in row[:self.many_kinds]:
                sources[behind].append(number)
        is_bad = [flaw is not None for flaw in self._flaws]
        queue = [number for number, flaw in enumerate(self._flaws) if flaw is not None]
        at = 0
        while at < len(queue):
            leading = sources[queue[at]]
            for number in leading:
                if not is_bad[number]:
                    is_bad[number] = True
                    queue.append(number)
            at += 1
        return is_bad

    def fault_behind(self, number):
        """Two tails, as letters, behind a bad joint state, such that no shift is right for both."""
        origins = {number: None}
        queue = [number]
        at = 0
        while self._flaws[queue[at]] is None:
            source = queue[at]
            for rank, (_, behind) in enumerate(self._walk.rows[source]):
                if behind not in origins:
                    origins[behind] = (source, rank)
                    queue.append(behind)
            at += 1
        alphabet = self._walk.alphabet
        way = letters_to(origins, alphabet, queue[at])
        return [way + [alphabet[rank] for rank in ranks] for ranks in self._flaws[queue[at]]]


def shifts_there(moves):
    """The shifts that are right for an argument that both conventions place so: for its slots, if it has any.

    None stands for an argument that none is right for.
    """
    (placing, _), (other, _) = moves
    return [None] if is_lost(moves) else shifts_between(placing.codes, other.codes)


def tails_of(walk):
    """The tails of a walk, kept with it."""
    if "tails" not in walk.notes:
        walk.notes["tails"] = Tails(walk)
    return walk.notes["tails"]
