"""Calls by a convention, and what a callee reads from them [42], [43].

The bits of an argument are told by a number here, the lowest bit first, and which of them are known by another one,
in which they are 1.
"""

from unlikecalls.basics import is_list
from unlikecalls.conventions import check_convention
from unlikecalls.errors import InvalidValues
from unlikecalls.fills import SIGN
from unlikecalls.frames import check_bytes, check_frame, made_frame, number_of_bytes
from unlikecalls.places import GROUPS
from unlikecalls.signatures import check_signature

GARBAGE_REGISTERS = (0, 1, 2)
BYTES_OF_REGISTER = 8


def call(convention, signature, values, garbage=()):
    """The frame of a call with these values, and garbage everywhere else."""
    check_convention(convention)
    check_signature(signature)
    check_values(signature, values)
    check_bytes(garbage)
    layout = convention >> signature
    frame = garbage_frame(garbage, layout.end)
    for argument, width in enumerate(widths_of(signature)):
        number, known = promised_number(values[argument], width, layout.fill(argument))
        put_pieces(frame, layout.pieces(argument), number, known)
    return frame


def read_values(convention, signature, frame):
    """The values that a callee reads from a frame."""
    check_convention(convention)
    check_signature(signature)
    check_frame(frame)
    layout = convention >> signature
    widths = widths_of(signature)
    return [number_in(frame, layout.pieces(argument)) & ones(width) for argument, width in enumerate(widths)]


def first_broken(convention, signature, frame, values):
    """The first argument, and its lowest bit, that is not as the convention promises it; None if there is none."""
    check_convention(convention)
    check_signature(signature)
    check_frame(frame)
    check_values(signature, values)
    layout = convention >> signature
    for argument, width in enumerate(widths_of(signature)):
        number, known = promised_number(values[argument], width, layout.fill(argument))
        wrong = (number ^ number_in(frame, layout.pieces(argument))) & known
        if wrong != 0:
            return argument, lowest_one(wrong)
    return None


def keeps(convention, signature, frame, values):
    """Whether a frame keeps the convention for these values."""
    return first_broken(convention, signature, frame, values) is None


def check_values(signature, values):
    """Refuses what is no list with a value for each argument of the signature."""
    names = signature.arguments()
    if not is_list(values) or len(values) > len(names):
        raise InvalidValues(None)
    for position, name in enumerate(names):
        if position == len(values) or not signature.book.kind(name).holds(values[position]):
            raise InvalidValues(position)


def widths_of(signature):
    """The width of each argument of a signature."""
    widths = {kind.name: kind.width for kind in signature.book.kinds()}
    return [widths[name] for name in signature.arguments()]


def ones(many):
    """The number whose lowest bits, so many of them, are 1."""
    return (1 << many) - 1


def lowest_one(number):
    """The position of the lowest bit of a number that is 1."""
    return (number & -number).bit_length() - 1


def promised_number(value, width, fill):
    """The bits that are promised for a value with this width and this cut fill, and which ones these are."""
    return with_fill(value, width, fill), ones(width if fill.is_free else fill.extent)


def with_fill(number, width, fill):
    """The number with the bits of a cut fill above its lowest bits, so many as the width."""
    if fill.is_free:
        return number
    touched = ones(fill.extent) ^ ones(width)
    if fill.word == SIGN and number >> (width - 1) & 1 == 1:
        return number | touched
    return number & ~touched


def garbage_frame(garbage, size):
    """A frame with so many bytes of area, all of it garbage: the registers first, and then the area."""
    ahead = len(GROUPS) * len(GARBAGE_REGISTERS) * BYTES_OF_REGISTER
    row = garbage_bytes(garbage, ahead + size)
    registers = {}
    at = 0
    for group in GROUPS:
        for number in GARBAGE_REGISTERS:
            registers[(group, number)] = number_of_bytes(row[at:at + BYTES_OF_REGISTER])
            at += BYTES_OF_REGISTER
    return made_frame(row[ahead:], registers)


def garbage_bytes(garbage, many):
    """So many bytes of garbage; it begins again behind its last byte."""
    if len(garbage) == 0:
        return [0] * many
    row = list(garbage) * (many // len(garbage) + 1)
    return row[:many]


def number_in(frame, pieces):
    """The bits that stand in these pieces, one piece after another."""
    number = 0
    for piece in pieces[::-1]:
        number = number << piece.bits | frame.number_at(piece)
    return number


def put_pieces(frame, pieces, number, known):
    """Puts the known bits of a number into these pieces, one piece after another."""
    for piece in pieces:
        most = ones(piece.bits)
        frame.put_number(piece, number & most, known & most)
        number, known = number >> piece.bits, known >> piece.bits
