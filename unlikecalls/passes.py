"""Passes in place: the callee's arguments are put into the area in which the caller's ones lie [81], [82]."""

from unlikecalls.basics import is_count
from unlikecalls.calls import number_in, ones, put_pieces, widths_of, with_fill
from unlikecalls.conventions import check_convention
from unlikecalls.errors import InvalidNumber, NoRoom
from unlikecalls.frames import check_frame, made_frame
from unlikecalls.kinds import check_one_book
from unlikecalls.leads import check_sides
from unlikecalls.signatures import Signature, check_signature


def held(first, second, signature, *, backward=False):
    """How many bytes are held when 0, 1, 2, .. and at last all arguments have been moved."""
    check_sides(first, second, signature)
    return held_bytes(first, second, signature, backward)


def pass_forward(first, second, signature, frame, room):
    """The result of a pass from the first argument on."""
    check_pass(first, second, signature, frame, room)
    check_room(held_bytes(first, second, signature, False), room)
    return passed(first, second, signature, frame)


def pass_backward(first, second, signature, frame, room):
    """The result of a pass from the last argument on."""
    check_pass(first, second, signature, frame, room)
    check_room(held_bytes(first, second, signature, True), room)
    return passed(first, second, signature, frame)


def check_pass(first, second, signature, frame, room):
    """Refuses what are no conventions, signature, frame and room of a pass."""
    check_convention(first)
    check_convention(second)
    check_signature(signature)
    check_frame(frame)
    if not is_count(room):
        raise InvalidNumber(room)
    check_one_book([first, second, signature])


def check_room(row, room):
    """Refuses a room that is less than what is held."""
    for moved, many in enumerate(row):
        if many > room:
            raise NoRoom(moved)


def held_bytes(first, second, signature, backward):
    """What held tells, where all are of one book."""
    leads = [second.home - first.home]
    offsets, other_offsets = (first >> signature).offsets(), (second >> signature).offsets()
    for position, letter in enumerate(signature.letters()):
        # The mark is no argument, and moves nothing.
        if letter != Signature.MARK:
            leads.append(other_offsets[position + 1] - offsets[position + 1])
    if backward:
        return [max(0, -one) for one in leads[::-1]]
    return [max(0, one) for one in leads]


def passed(first, second, signature, frame):
    """The frame in which the second convention finds what the first one has put into this one."""
    layout, other = first >> signature, second >> signature
    made = made_frame([0] * other.end, frame.registers())
    for argument, width in enumerate(widths_of(signature)):
        number = with_fill(number_in(frame, layout.pieces(argument)), width, other.fill(argument))
        all_bits = ones(other.bits_of(argument))
        put_pieces(made, other.pieces(argument), number & all_bits, all_bits)
    return made
