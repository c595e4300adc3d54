"""What several tests need."""

import unittest

# Values of many kinds. None of them is a COUNT.
NO_COUNTS = (True, False, None, -1, -10 ** 29, "", "1", "a", b"1", [], [1], (), (1,), {}, {1: 1}, set(), object())
NO_STRINGS = (True, False, None, 0, 1, -1, b"a", [], ["a"], (), ("a",), {}, {"a": 1}, set(), object())


class RaisingTest(unittest.TestCase):
    """A test that looks at the errors of calls."""

    def check_raises(self, error_class, attributes, action, *values, **named):
        """action raises an error of just this class, with just these attributes."""
        try:
            action(*values, **named)
        except Exception as error:
            caught = error
        else:
            self.fail(f"{error_class.__name__} is not raised for {values} {named}")
        self.assertIs(type(caught), error_class, repr(caught))
        self.check_same_values(vars(caught), attributes)

    def check_same_values(self, found, wanted):
        """Equal dicts, whose values are also of the same classes (True is not 1)."""
        self.assertEqual(list(found), list(wanted))
        for name, value in wanted.items():
            self.assertIs(type(found[name]), type(value))
            self.assertTrue(found[name] is value or found[name] == value, (found, wanted))

    def check_equal_alone(self, values, others=()):
        """Each value is equal to itself and to no other one, nor to values of other kinds."""
        strangers = (None, True, 0, 1, "", repr(values[0]), [], (), {}, object(), *others)
        for at, one in enumerate(values):
            for number, other in enumerate(values):
                self.assertIs(one == other, at == number, (one, other))
                self.assertIs(one != other, at != number, (one, other))
            for stranger in strangers:
                self.assertFalse(one == stranger, (one, stranger))
                self.assertFalse(stranger == one, (one, stranger))
                self.assertTrue(one != stranger, (one, stranger))

    def check_read_only(self, thing, names):
        """The properties of an object that never changes cannot be set."""
        for name in names:
            before = getattr(thing, name)
            with self.assertRaises(AttributeError, msg=name):
                setattr(thing, name, before)
            self.assertEqual(getattr(thing, name), before)
