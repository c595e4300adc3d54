"""What the other files ask of values of any kind [2]."""

LONGEST_NAME = 8
NAME_LETTERS = "abcdefghijklmnopqrstuvwxyz"


def is_integer(value):
    """Whether value is an INTEGER; True and False are none."""
    return isinstance(value, int) and not isinstance(value, bool)


def is_count(value):
    """Whether value is a COUNT, an INTEGER that is at least 0."""
    return isinstance(value, int) and not isinstance(value, bool) and value >= 0


def is_byte(value):
    """Whether value is a BYTE, a COUNT below 256."""
    return isinstance(value, int) and not isinstance(value, bool) and 0 <= value < 256


def is_name(value):
    """Whether value is a NAME, one to eight letters from a to z."""
    if not isinstance(value, str) or not 1 <= len(value) <= LONGEST_NAME:
        return False
    return all([letter in NAME_LETTERS for letter in value])


def is_between(value, least, most):
    """Whether value is an INTEGER from least to most."""
    return isinstance(value, int) and not isinstance(value, bool) and least <= value <= most


def is_one_of(value, numbers):
    """Whether value is an INTEGER and one of these numbers."""
    return is_integer(value) and value in numbers


def is_word_of(value, words):
    """Whether value is a string and one of these words."""
    return isinstance(value, str) and value in words


def is_list(value):
    """Whether value is passed where a list is wanted; a tuple does as well."""
    return isinstance(value, (list, tuple))


def is_bit(value):
    """Whether value is a bit of a row: 0, 1, or None for an unknown one."""
    return value is None or is_between(value, 0, 1)
