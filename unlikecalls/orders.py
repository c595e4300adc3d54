"""Arguments of a known signature moved one after another: orders of those in slots [84], moves of registers [85]."""

from unlikecalls.basics import is_between, is_list
from unlikecalls.conventions import check_convention
from unlikecalls.errors import InvalidOrder
from unlikecalls.frames import check_frame
from unlikecalls.kinds import check_one_book
from unlikecalls.leads import check_sides
from unlikecalls.passes import passed
from unlikecalls.places import Register, Slots
from unlikecalls.signatures import check_signature


def waits(first, second, signature):
    """The tuples of two arguments the first one of which waits for the second one, sorted."""
    check_sides(first, second, signature)
    return [(argument, other) for argument, row in enumerate(wait_rows(first, second, signature)) for other in row]


def find_order(first, second, signature):
    """The arguments, each behind all for which it waits."""
    check_sides(first, second, signature)
    rows = wait_rows(first, second, signature)
    waiting = [[] for _ in rows]
    for argument, row in enumerate(rows):
        for other in row:
            waiting[other].append(argument)
    left = [len(row) for row in rows]
    order = [argument for argument, many in enumerate(left) if many == 0]
    at = 0
    while at < len(order):
        freed = waiting[order[at]]
        for argument in freed:
            left[argument] -= 1
            if left[argument] == 0:
                order.append(argument)
        at += 1
    return order


def is_order(first, second, signature, value):
    """Whether value is an order of the arguments."""
    check_sides(first, second, signature)
    return is_order_for(wait_rows(first, second, signature), value)


def move_all(first, second, signature, frame, order):
    """The frame in which all arguments have been moved in an order."""
    check_convention(first)
    check_convention(second)
    check_signature(signature)
    check_frame(frame)
    check_one_book([first, second, signature])
    if not is_order_for(wait_rows(first, second, signature), order):
        raise InvalidOrder(order)
    # In an order no argument is overwritten before it is read, so each is moved as it lies in the frame.
    return passed(first, second, signature, frame)


def register_moves(first, second, signature):
    """The tuples of two registers, from the first one to the second one, sorted."""
    check_sides(first, second, signature)
    found = {}
    layout, other = first >> signature, second >> signature
    for argument in range(len(layout)):
        # The pieces tell of the lower 64 bits first, then of the upper ones.
        for piece, other_piece in zip(layout.pieces(argument), other.pieces(argument)):
            if isinstance(piece, Register) and isinstance(other_piece, Register) and piece != other_piece:
                found[f"{piece.group} {piece.number}"] = (piece, other_piece)
    in_order = sorted([str(key) for key in found])
    return [found[key] for key in in_order]


def single_moves(first, second, signature):
    """The least number of moves of single registers by which the register moves are done."""
    return len(moves_with_spare(first, second, signature))


def exchanges(first, second, signature):
    """The least number of exchanges of two registers by which the register moves are done."""
    return least_exchanges(register_moves(first, second, signature))


def moves_with_spare(first, second, signature):
    """The register moves one after another, with None for the spare register, so that nothing is overwritten."""
    return moves_in_sequence(register_moves(first, second, signature))


def wait_rows(first, second, signature):
    """For each argument those for which it waits, in sequence."""
    owners = {}
    layout, other = first >> signature, second >> signature
    for argument in range(len(layout)):
        for byte in bytes_of(layout.pieces(argument)):
            owners[byte] = argument
    rows = []
    for argument in range(len(layout)):
        row = []
        for byte in bytes_of(other.pieces(argument)):
            owner = owners.get(byte, argument)
            # The bytes of slots rise with the arguments, so equal owners stand together.
            if owner != argument and row[-1:] != [owner]:
                row.append(owner)
        rows.append(row)
    return rows


def bytes_of(pieces):
    """The numbers of the bytes of all pieces in slots."""
    return [byte for piece in pieces if isinstance(piece, Slots) for byte in range(piece.offset, piece.end)]


def is_order_for(rows, value):
    """Whether value is an order of the arguments with these rows of others for which they wait."""
    if not is_list(value) or len(value) != len(rows):
        return False
    moved = [False] * len(rows)
    for argument in value:
        if not is_between(argument, 0, len(rows) - 1) or moved[argument]:
            return False
        if not all([moved[other] for other in rows[argument]]):
            return False
        moved[argument] = True
    return True


def least_exchanges(moves):
    """The least number of exchanges of two registers by which these moves are done."""
    rings = len(moves_in_sequence(moves)) - len(moves)
    # A path has as many moves as registers less 1, a ring one more.
    return len(moves) - rings


def moves_in_sequence(moves):
    """Register moves as a row of single ones, in which None is the spare register.

    No two moves have equal sources or equal targets. Each is done when what stands in its target has been moved.
    """
    done = []
    left = {repr(source): (source, target) for source, target in moves}
    while left:
        ready = [key for key in left if repr(left[key][1]) not in left]
        if not ready:
            # Only rings are left. One is opened: what stands in one of its registers goes to the spare one.
            opened = list(left)[0]
            source, target = left.pop(opened)
            done.append((source, None))
            left[repr(None)] = (None, target)
        for key in ready:
            done.append(left.pop(key))
    return done
