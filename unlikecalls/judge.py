"""Claims, and the papers that show them [93]."""

from unlikecalls.adapters import Adapter
from unlikecalls.basics import is_count, is_integer, is_list, is_word_of
from unlikecalls.conventions import Convention, is_state
from unlikecalls.errors import InvalidClaim
from unlikecalls.judging import first_wrong, is_right, is_table, table
from unlikecalls.leads import (
    greatest_lead,
    heights,
    is_heights,
    is_rising,
    is_signature_of,
    lead_of,
    lead_signature,
    rise_by,
    rising_ring,
)
from unlikecalls.machines import code_of
from unlikecalls.sides import are_alike, first_unlike, joint_states
from unlikecalls.walks import walk_both

KINDS = ("right", "wrong", "alike", "unlike", "room", "narrow", "rising")
OF_ADAPTERS = ("right", "wrong")
WITH_NUMBERS = ("room", "narrow")
NO_PAPER = "none"


def is_claim(value):
    """Whether value is a claim."""
    if not isinstance(value, tuple) or len(value) == 0 or not is_word_of(value[0], KINDS):
        return False
    if value[0] in OF_ADAPTERS:
        return len(value) == 2 and isinstance(value[1], Adapter)
    if len(value) != (4 if value[0] in WITH_NUMBERS else 3):
        return False
    if not all([isinstance(plan, Convention) for plan in value[1:3]]) or value[1].book != value[2].book:
        return False
    return all([is_count(number) for number in value[3:]])


def paper_of(claim):
    """A paper of a claim that is true; "none" if it is false."""
    check_claim(claim)
    if claim[0] == "right":
        paper = table(claim[1])
    elif claim[0] == "wrong":
        paper = first_wrong(claim[1])
    elif claim[0] == "alike":
        paper = alike_paper(claim[1], claim[2])
    elif claim[0] == "unlike":
        paper = first_unlike(claim[1], claim[2])
    elif claim[0] == "room":
        paper = room_paper(claim[1], claim[2], claim[3])
    elif claim[0] == "narrow":
        paper = narrow_paper(claim[1], claim[2], claim[3])
    else:
        paper = rising_ring(claim[1], claim[2])
    return NO_PAPER if paper is None else paper


def is_paper(claim, value):
    """Whether value is a paper of a claim that is right."""
    check_claim(claim)
    if claim[0] in OF_ADAPTERS:
        claim[1].entry_walk()
        return is_paper_of_adapter(claim[0], claim[1], value)
    _, first, second, *numbers = claim
    walk_both(first, second)
    if claim[0] == "alike":
        return is_alike_paper(first, second, value)
    if claim[0] == "unlike":
        return is_unlike_paper(first, second, value)
    if claim[0] == "room":
        return is_heights(first, second, value) and all([height <= numbers[0] for height in value.values()])
    if claim[0] == "narrow" and is_signature_of(first.book, value):
        return lead_of(first, second, value) > numbers[0]
    return is_rising(first, second, value)


def check_claim(value):
    """Refuses what is no claim."""
    if not is_claim(value):
        raise InvalidClaim(value)


def is_paper_of_adapter(word, adapter, value):
    """Whether value shows that an adapter is right, or wrong, as the word tells."""
    if word == "right":
        return is_table(adapter, value)
    return is_signature_of(adapter.book, value) and not is_right(adapter, value)


def alike_paper(first, second):
    """The paper that shows that two conventions are alike; None if they are not."""
    if not are_alike(first, second):
        return None
    # Slots that are equal everywhere leave the offsets as far apart as they are at first.
    return [(*states, second.home - first.home) for states in joint_states(first, second)]


def room_paper(first, second, room):
    """Heights none of which is above the room; None if there are none."""
    greatest = greatest_lead(first, second)
    if greatest is None or greatest > room:
        return None
    return heights(first, second)


def narrow_paper(first, second, room):
    """What shows that a room is not enough forward; None if it is."""
    greatest = greatest_lead(first, second)
    if greatest is None:
        return rising_ring(first, second)
    return lead_signature(first, second) if greatest > room else None


def is_unlike_paper(first, second, value):
    """Whether value is a signature whose last argument has other pieces, or another cut fill."""
    if not is_signature_of(first.book, value) or len(value.arguments()) == 0:
        return False
    last = len(value.arguments()) - 1
    layout, other = first >> value, second >> value
    return layout.pieces(last) != other.pieces(last) or layout.fill(last) != other.fill(last)


def is_alike_paper(first, second, value):
    """Whether value is a list of states of both, with how much further the second offset is, that shows them alike."""
    if not is_list(value) or not all([is_alike_row(row) for row in value]):
        return False
    rows = [(code_of(state), code_of(other_state), lead_there) for state, other_state, lead_there in value]
    known = {row: True for row in rows}
    if (0, 0, second.home - first.home) not in known:
        return False
    for code, other_code, lead_there in rows:
        for moves in zip(first.machine().moves(code), second.machine().moves(other_code)):
            if not are_moves_alike(moves, lead_there):
                return False
            if (moves[0][1], moves[1][1], lead_there + rise_by(moves)) not in known:
                return False
    return True


def is_alike_row(value):
    """Whether value has the form of a tuple of that paper."""
    if not isinstance(value, tuple) or len(value) != 3:
        return False
    return is_state(value[0]) and is_state(value[1]) and is_integer(value[2])


def are_moves_alike(moves, lead_there):
    """Whether both place a letter alike where the second offset is so much further."""
    (placing, _), (other, _) = moves
    if placing.standing is None:
        # The mark is not placed.
        return True
    codes = [(begin if many == 0 else begin + lead_there, many) for begin, many in other.codes]
    return placing.codes == codes and placing.standing.fill_key == other.standing.fill_key
