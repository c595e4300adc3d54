"""The errors: their attributes, and the one class in front of each."""

import unittest

from unlikecalls import errors

FRONT = {
    "CallError": ValueError,
    "MissingError": LookupError,
    "StateError": RuntimeError,
    "LimitError": ArithmeticError,
}

ATTRIBUTES = {
    "CallError": {
        "InvalidNumber": ["value"], "InvalidName": ["value"], "InvalidPlace": ["value"], "InvalidFill": ["value"],
        "InvalidWork": ["position"], "InvalidBits": ["position"], "InvalidKind": ["value"], "InvalidBook": ["value"],
        "InvalidLetter": ["position"], "InvalidSignature": ["value"], "InvalidOption": ["option", "value"],
        "InvalidConvention": ["value"], "InvalidState": ["value"], "InvalidValues": ["position"],
        "InvalidBytes": ["position"], "InvalidFrame": ["value"], "InvalidStep": ["part"],
        "InvalidStates": ["position"], "InvalidAdapter": ["value"], "InvalidOrder": ["value"],
        "InvalidText": ["line"], "InvalidClaim": ["value"], "InvalidThing": ["value"], "InvalidCommand": ["value"],
    },
    "MissingError": {"UnknownKind": ["value"], "UnknownThing": ["value"], "NothingToUndo": []},
    "StateError": {
        "OtherBook": ["one", "other"], "OtherConvention": ["one", "other"], "NotRight": ["witness"],
        "NoRoom": ["moved"], "CommandFailed": ["position"],
    },
    "LimitError": {"TooMany": ["what", "limit"]},
}

VALUES = (None, True, False, 0, -1, 10 ** 29, "", "letters", b"x", [], [1, [2]], (), (1, 2), {}, {"a": 1}, set(),
          object(), ValueError("x"), int)


class WithoutText:
    """A value that cannot be written out."""

    def __repr__(self):
        raise RuntimeError("no text")


def rows():
    for front, names in ATTRIBUTES.items():
        for name, attributes in names.items():
            yield getattr(errors, front), getattr(errors, name), attributes


class ErrorsTest(unittest.TestCase):

    def test_bases(self):
        for name, parent in FRONT.items():
            self.assertEqual(getattr(errors, name).__bases__, (parent,))
        for front, error_class, _ in rows():
            self.assertEqual(error_class.__bases__, (front,), error_class)

    def test_no_other_front(self):
        fronts = [getattr(errors, name) for name in FRONT]
        for front, error_class, _ in rows():
            for other in fronts:
                self.assertIs(issubclass(error_class, other), other is front, (error_class, other))
            for parent in FRONT.values():
                self.assertIs(issubclass(error_class, parent), parent in front.__bases__, (error_class, parent))

    def test_attributes_by_position_and_by_name(self):
        for _, error_class, attributes in rows():
            for at in range(len(VALUES)):
                values = [VALUES[(at + number) % len(VALUES)] for number in range(len(attributes))]
                made = (error_class(*values), error_class(**dict(zip(attributes, values))))
                for error in made:
                    self.assertEqual(list(vars(error)), attributes)
                    for name, value in zip(attributes, values):
                        self.assertIs(getattr(error, name), value)

    def test_number_of_parameters(self):
        for _, error_class, attributes in rows():
            with self.assertRaises(TypeError):
                error_class(*range(len(attributes) + 1))
            if attributes:
                with self.assertRaises(TypeError):
                    error_class(*range(len(attributes) - 1))

    def test_values_without_text(self):
        for _, error_class, attributes in rows():
            value = WithoutText()
            error = error_class(*[value for _ in attributes])
            for name in attributes:
                self.assertIs(getattr(error, name), value)

    def test_raised_and_caught(self):
        for front, error_class, attributes in rows():
            for caught_class in (error_class, front, front.__bases__[0]):
                with self.assertRaises(caught_class) as told:
                    raise error_class(*attributes)
                self.assertIs(type(told.exception), error_class)
