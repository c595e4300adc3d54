"""Frames: an area of bytes, and registers [41]."""

from unlikecalls.basics import is_between, is_bit, is_byte, is_count, is_list, is_word_of
from unlikecalls.errors import InvalidBits, InvalidBytes, InvalidFrame, InvalidNumber, InvalidPlace
from unlikecalls.places import GROUPS, LAST_NUMBER, Register, Slots

MOST_BYTES_OF_AREA = 20000
GREATEST_OF_REGISTER = 2 ** 64 - 1
# The groups in the order of strings.
GROUPS_AS_STRINGS = ("float", "whole")


class Frame:
    """An area of bytes, and registers; it may change."""

    def __init__(self, area=(), registers=None):
        check_bytes(area)
        check_registers(registers)
        told = {} if registers is None else registers
        self._area = list(area)
        self._registers = {key: told[key] for key in told}

    def area(self):
        """The bytes of the area."""
        return list(self._area)

    def registers(self):
        """The registers that are not 0, by tuples (group, number), sorted."""
        keys = [(group, number) for group in GROUPS_AS_STRINGS for number in range(LAST_NUMBER + 1)]
        return {key: self._registers[key] for key in keys if self._registers.get(key, 0) != 0}

    @property
    def size(self):
        """How many bytes the area has."""
        return len(self._area)

    @size.setter
    def size(self, value):
        self.resize(value)

    def resize(self, size):
        """Sets the number of bytes of the area; bytes that come are 0."""
        if not is_between(size, 0, MOST_BYTES_OF_AREA):
            raise InvalidNumber(size)
        missing = size - len(self._area)
        self._area = self._area[:size] + [0] * missing

    def __getitem__(self, at):
        if isinstance(at, Register):
            return self._registers.get((at.group, at.number), 0)
        if not is_count(at):
            raise InvalidPlace(at)
        return byte_at(self._area, at)

    def __setitem__(self, at, worth):
        if isinstance(at, Register):
            if not is_between(worth, 0, GREATEST_OF_REGISTER):
                raise InvalidNumber(worth)
            self._registers[(at.group, at.number)] = worth
        else:
            if not is_between(at, 0, len(self._area) - 1):
                raise InvalidPlace(at)
            if not is_byte(worth):
                raise InvalidNumber(worth)
            self._area[at] = worth

    def __iter__(self):
        raise TypeError("area() and registers() give what is in a frame")

    def copy(self):
        """A frame with the same content that changes independently."""
        return made_frame(self.area(), self.registers())

    def bits_at(self, place):
        """The bits of a register or of slots; bytes behind the area are 0."""
        if not isinstance(place, (Register, Slots)):
            raise InvalidPlace(place)
        return bits_of_number(self.number_at(place), place.bits)

    def put(self, place, bits):
        """Sets the bits of a register or of slots, those that are 0 or 1."""
        if not isinstance(place, (Register, Slots)):
            raise InvalidPlace(place)
        if isinstance(place, Slots) and place.end > len(self._area):
            raise InvalidPlace(place)
        check_bits(bits, place.bits)
        known = [0 if bit is None else 1 for bit in bits]
        self.put_number(place, number_of_bits([bit or 0 for bit in bits]), number_of_bits(known))

    def number_at(self, place):
        """The bits of a register or of slots as a number; bytes behind the area are 0."""
        if isinstance(place, Register):
            return self._registers.get((place.group, place.number), 0)
        return number_of_bytes(self._area[place.offset:place.end])

    def put_number(self, place, number, known):
        """Sets those bits of a register, or of slots within the area, that are 1 in known, to those of a number."""
        if known != (1 << place.bits) - 1:
            number = number & known | self.number_at(place) & ~known
        if isinstance(place, Register):
            self._registers[(place.group, place.number)] = number
        else:
            self._area[place.offset:place.end] = bytes_of_number(number, place.many)

    def __eq__(self, other):
        if not isinstance(other, Frame):
            return False
        return self._area == other._area and self.registers() == other.registers()


def guarded(frame, action):
    """What action returns for the frame; if it raises an error, the frame is as before."""
    check_frame(frame)
    area = frame.area()
    registers = frame.registers()
    done = None
    try:
        result = action(frame)
        done = 1
    finally:
        if done is None:
            frame._area, frame._registers = area, registers
    return result


def byte_at(area, at):
    """A byte of an area, 0 behind it."""
    return area[at] if at < len(area) else 0


def bits_of_number(number, many):
    """So many bits of a number, the lowest one first."""
    return [number >> position & 1 for position in range(many)]


def number_of_bits(bits):
    """The number with these bits, the lowest one first."""
    return sum([bit << position for position, bit in enumerate(bits)])


def number_of_bytes(row):
    """The number with these bytes, the lowest one first."""
    number = 0
    for byte in row[::-1]:
        number = number << 8 | byte
    return number


def bytes_of_number(number, many):
    """So many bytes of a number, the lowest one first."""
    return [number >> at & 255 for at in range(0, 8 * many, 8)]


def check_bytes(value):
    """Refuses what is no list of BYTES."""
    if not is_list(value):
        raise InvalidBytes(None)
    for position, byte in enumerate(value):
        if not is_byte(byte):
            raise InvalidBytes(position)


def made_frame(area, registers):
    """A frame with this area and these registers, which are right and are not kept elsewhere."""
    frame = Frame()
    frame._area, frame._registers = area, registers
    return frame


def check_registers(value):
    """Refuses what are no registers with numbers, and is not None."""
    if value is None:
        return
    if not isinstance(value, dict):
        raise InvalidPlace(value)
    for key in value:
        if not is_register_key(key):
            raise InvalidPlace(key)
    for number in value.values():
        if not is_between(number, 0, GREATEST_OF_REGISTER):
            raise InvalidNumber(number)


def is_register_key(value):
    """Whether value is a tuple (group, number) of a register."""
    if not isinstance(value, tuple) or len(value) != 2:
        return False
    return is_word_of(value[0], GROUPS) and is_between(value[1], 0, LAST_NUMBER)


def check_bits(value, most):
    """Refuses what is no list of bits, or has more of them than this."""
    if not is_list(value) or len(value) > most:
        raise InvalidBits(None)
    for position, bit in enumerate(value):
        if not is_bit(bit):
            raise InvalidBits(position)


def check_frame(value):
    """Refuses what is no frame."""
    if not isinstance(value, Frame):
        raise InvalidFrame(value)
