"""Calls by a convention, and what a callee reads from them [42], [43]."""

from unlikecalls.basics import is_list
from unlikecalls.conventions import check_convention
from unlikecalls.errors import InvalidValues
from unlikecalls.fills import SIGN
from unlikecalls.frames import Frame, bits_of_number, check_bytes, check_frame, number_of_bits
from unlikecalls.places import GROUPS
from unlikecalls.signatures import check_signature

GARBAGE_REGISTERS = (0, 1, 2)
BYTES_OF_REGISTER = 8


def call(convention, signature, values, garbage=()):
    """The frame of a call with these values, and garbage everywhere else."""
    check_convention(convention)
    check_signature(signature)
    check_values(signature, values)
    check_bytes(garbage)
    layout = convention >> signature
    frame = garbage_frame(garbage, layout.end)
    for argument, name in enumerate(signature.arguments()):
        width = signature.book.kind(name).width
        promised = promised_row(values[argument], width, layout.fill(argument), layout.bits_of(argument))
        put_row(frame, layout.pieces(argument), promised)
    return frame


def read_values(convention, signature, frame):
    """The values that a callee reads from a frame."""
    check_convention(convention)
    check_signature(signature)
    check_frame(frame)
    layout = convention >> signature
    values = []
    for argument, name in enumerate(signature.arguments()):
        row = row_at(frame, layout.pieces(argument))
        values.append(number_of_bits(row[:signature.book.kind(name).width]))
    return values


def first_broken(convention, signature, frame, values):
    """The first argument, and its lowest bit, that is not as the convention promises it; None if there is none."""
    check_convention(convention)
    check_signature(signature)
    check_frame(frame)
    check_values(signature, values)
    layout = convention >> signature
    for argument, name in enumerate(signature.arguments()):
        width = signature.book.kind(name).width
        promised = promised_row(values[argument], width, layout.fill(argument), layout.bits_of(argument))
        position = first_other_bit(promised, row_at(frame, layout.pieces(argument)))
        if position is not None:
            return argument, position
    return None


def keeps(convention, signature, frame, values):
    """Whether a frame keeps the convention for these values."""
    return first_broken(convention, signature, frame, values) is None


def check_values(signature, values):
    """Refuses what is no list with a value for each argument of the signature."""
    names = signature.arguments()
    if not is_list(values) or len(values) > len(names):
        raise InvalidValues(None)
    for position, name in enumerate(names):
        if position == len(values) or not signature.book.kind(name).holds(values[position]):
            raise InvalidValues(position)


def promised_row(value, width, fill, many):
    """So many bits, as they are promised for a value with this width and this cut fill; None where nothing is."""
    bits = bits_of_number(value, width)
    if not fill.is_free:
        filling = bits[-1] if fill.word == SIGN else 0
        bits = bits + [filling] * (fill.extent - width)
    return bits + [None] * (many - len(bits))


def first_other_bit(promised, found):
    """The position of the lowest bit that is promised and is not found so; None if there is none."""
    for position, bit in enumerate(promised):
        if bit is not None and bit != found[position]:
            return position
    return None


def garbage_frame(garbage, size):
    """A frame with so many bytes of area, all of it garbage: the registers first, and then the area."""
    registers = {}
    at = 0
    for group in GROUPS:
        for number in GARBAGE_REGISTERS:
            some = garbage_bytes(garbage, at, BYTES_OF_REGISTER)
            registers[(group, number)] = sum([byte << 8 * position for position, byte in enumerate(some)])
            at += BYTES_OF_REGISTER
    return Frame(garbage_bytes(garbage, at, size), registers)


def garbage_bytes(garbage, at, many):
    """So many bytes of garbage from this one on; it begins again behind its last byte."""
    if len(garbage) == 0:
        return [0] * many
    return [garbage[(at + number) % len(garbage)] for number in range(many)]


def row_at(frame, pieces):
    """The bits that stand in these pieces, one piece after another."""
    row = []
    for piece in pieces:
        row.extend(frame.bits_at(piece))
    return row


def put_row(frame, pieces, row):
    """Puts the bits of a row into these pieces, one piece after another."""
    at = 0
    for piece in pieces:
        frame.put(piece, row[at:at + piece.bits])
        at += piece.bits
