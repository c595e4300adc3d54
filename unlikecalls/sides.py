"""Two conventions of one book side by side [51], [52], [53]."""

from unlikecalls.conventions import check_convention
from unlikecalls.errors import TooMany, UnknownKind
from unlikecalls.fills import Fill
from unlikecalls.kinds import check_one_book
from unlikecalls.layouts import MARK_AT, bits_in, piece_behind
from unlikecalls.signatures import Signature

MOST_JOINT_STATES = 400


def joint_states(first, second):
    """The states of both conventions that are reached by the same letters, sorted."""
    return sorted([row[0] for row in walk_both(first, second)])


def first_unlike(first, second):
    """The first signature whose last argument is not laid out alike; None if there is none."""
    rows = walk_both(first, second)
    return first_shown(first.book, rows, lambda name, steps: not are_steps_alike(first, second, name, steps))


def are_alike(first, second):
    """Whether both lay out all signatures alike."""
    return first_unlike(first, second) is None


def first_lost(first, second):
    """The first signature whose last argument loses a bit by a plain copy, and the lowest one; None if none does."""
    rows = walk_both(first, second)
    signature = first_shown(first.book, rows, lambda name, steps: is_lost([first, second], name, steps))
    if signature is None:
        return None
    last = len(signature.arguments()) - 1
    fill, wanted = (first >> signature).fill(last), (second >> signature).fill(last)
    if fill.word == wanted.word:
        return signature, fill.extent
    return signature, first.book.kind(signature.arguments()[last]).width


def copies_do(first, second):
    """Whether plain copies are enough for all signatures."""
    return first_lost(first, second) is None


def least_fill(first, second, name):
    """The least fill that the first convention must have for a kind, so that plain copies of it are enough."""
    check_convention(first)
    check_convention(second)
    if name not in first.book:
        raise UnknownKind(name)
    least = Fill()
    for _, _, moves in walk_both(first, second):
        pieces, others = moves[name][0][0], moves[name][1][0]
        wanted = fill_at(second, name, others)
        if not wanted.is_free and wanted.extent > bits_in(pieces):
            return None
        if not least.covers(wanted):
            least = wanted
    return least


def lost_through(first, middle, second):
    """The first signature whose last argument loses a bit by copies by way of middle; None if none does."""
    plans = [first, middle, second]
    for plan in plans:
        check_convention(plan)
    check_one_book(plans)
    rows = walk_together(plans)
    return first_shown(first.book, rows, lambda name, steps: is_lost(plans, name, steps))


def walk_both(first, second):
    """The walk through the joint states of two conventions, both checked."""
    check_convention(first)
    check_convention(second)
    check_one_book([first, second])
    return walk_together([first, second])


def walk_together(plans):
    """All states of these conventions that are reached by the same letters, as signatures in order reach them.

    Each is a tuple: the states, the letters of the first signature that leads to them, and a dict from each letter
    that may follow to the steps of the conventions.
    """
    start = tuple([plan.start() for plan in plans])
    ways = {start: ()}
    queue = [start]
    rows = []
    while len(rows) < len(queue):
        states = queue[len(rows)]
        moves = {}
        for letter in letters_behind(plans[0].book, states[0]):
            moves[letter] = [plan.step(state, letter) for plan, state in zip(plans, states)]
            reached = tuple([step[1] for step in moves[letter]])
            if reached not in ways:
                ways[reached] = ways[states] + (letter,)
                queue.append(reached)
        if len(queue) > MOST_JOINT_STATES:
            raise TooMany("joint states", MOST_JOINT_STATES)
        rows.append((states, ways[states], moves))
    return rows


def letters_behind(book, state):
    """The letters that may follow where this state is reached: the mark only where it has not come yet."""
    if state[MARK_AT] == 1:
        return book.names()
    return [*book.names(), Signature.MARK]


def first_shown(book, rows, shows):
    """The first signature whose last argument shows something, asked by its name and its steps; None if none does."""
    for _, way, moves in rows:
        for name in book.names():
            if shows(name, moves[name]):
                letters = [*way, name]
                return Signature(book, *letters)
    return None


def are_steps_alike(first, second, name, steps):
    """Whether an argument has equal pieces and equal cut fills, where all ahead of it have.

    Ahead of the first unlike argument both offsets lie equally far behind HOME: slots make HOMEs that differ unlike.
    """
    pieces = [piece_behind(piece, first.home) for piece in steps[0][0]]
    others = [piece_behind(piece, second.home) for piece in steps[1][0]]
    return pieces == others and fill_at(first, name, pieces) == fill_at(second, name, others)


def is_lost(plans, name, steps):
    """Whether the last convention promises a bit that one ahead of it does not promise in the same way."""
    fills = [fill_at(plan, name, step[0]) for plan, step in zip(plans, steps)]
    return any([not fill.covers(fills[-1]) for fill in fills])


def fill_at(plan, name, pieces):
    """The fill of a kind in these pieces, cut at their bits."""
    return plan.fill(name).cut(plan.book.kind(name).width, bits_in(pieces))
