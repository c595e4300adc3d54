"""Two conventions of one book side by side [51], [52], [53]."""

from unlikecalls.conventions import check_convention
from unlikecalls.errors import UnknownKind
from unlikecalls.fills import FREE, Fill
from unlikecalls.kinds import check_one_book
from unlikecalls.walks import check_walk, walk_both, walk_together


def joint_states(first, second):
    """The states of both conventions that are reached by the same letters, sorted."""
    return walk_both(first, second).states_in_sequence()


def first_unlike(first, second):
    """The first signature whose last argument is not laid out alike; None if there is none."""
    walk = walk_both(first, second)
    # Ahead of the first unlike argument both offsets lie equally far behind HOME, and slots make HOMEs that differ
    # unlike.
    is_home_same = first.home == second.home
    return first_shown(walk, lambda steps: not are_alike_there(steps[0][0], steps[1][0], is_home_same))


def are_alike(first, second):
    """Whether both lay out all signatures alike."""
    return first_unlike(first, second) is None


def first_lost(first, second):
    """The first signature whose last argument loses a bit by a plain copy, and the lowest one; None if none does."""
    signature = first_shown(walk_both(first, second), is_lost)
    if signature is None:
        return None
    last = len(signature.arguments()) - 1
    fill, wanted = (first >> signature).fill(last), (second >> signature).fill(last)
    if fill.word == wanted.word:
        return signature, fill.extent
    return signature, first.book.kind(signature.arguments()[last]).width


def copies_do(first, second):
    """Whether plain copies are enough for all signatures."""
    return first_lost(first, second) is None


def least_fill(first, second, name):
    """The least fill that the first convention must have for a kind, so that plain copies of it are enough."""
    check_convention(first)
    check_convention(second)
    if name not in first.book:
        raise UnknownKind(name)
    least = Fill()
    for row in walk_both(first, second).rows:
        steps, _ = row[first.book.number_of(name)]
        room, wanted = steps[0][0].standing.room, steps[1][0].standing.cut_fill
        if not wanted.is_free and wanted.extent > room:
            return None
        if not least.covers(wanted):
            least = wanted
    return least


def lost_through(first, middle, second):
    """The first signature whose last argument loses a bit by copies by way of middle; None if none does."""
    plans = [first, middle, second]
    for plan in plans:
        check_convention(plan)
    check_one_book(plans)
    walk = walk_together(plans)
    check_walk(walk)
    return first_shown(walk, is_lost)


def first_shown(walk, shows):
    """The first signature whose last argument shows something, asked by the moves for it; None if none does."""
    kinds = len(walk.alphabet) - 1
    for number, row in enumerate(walk.rows):
        for rank in range(kinds):
            if shows(row[rank][0]):
                return walk.signature_of([*walk.way_to(number), walk.alphabet[rank]])
    return None


def are_alike_there(placing, other, is_home_same):
    """Whether an argument has equal pieces and equal cut fills on both sides, where all ahead of it have."""
    if placing.codes != other.codes or placing.standing.fill_key != other.standing.fill_key:
        return False
    # The second number of a code is 0 for registers alone.
    return is_home_same or placing.codes[-1][1] == 0


def is_lost(steps):
    """Whether the last convention promises a bit that one ahead of it does not promise in the same way."""
    word, extent = steps[-1][0].standing.fill_key
    if word == FREE:
        return False
    for placing, _ in steps[:-1]:
        other_word, other_extent = placing.standing.fill_key
        if other_word != word or other_extent < extent:
            return True
    return False
