"""Whether adapters are right, for one signature and for all of them [64], [66], [71], [72]."""

from unlikecalls.adapters import check_adapter
from unlikecalls.basics import is_byte, is_integer, is_list
from unlikecalls.calls import call, keeps
from unlikecalls.entries import entry_of, follow, is_right_for
from unlikecalls.kinds import check_one_book
from unlikecalls.signatures import Signature, check_signature


def entry(adapter, signature):
    """The entry that a signature leads to, whether or not the steps are right."""
    check_both(adapter, signature)
    return entry_of(adapter, signature)


def fault(adapter, signature):
    """The fault of the step of the last argument; None if it is right, or if the last letter is none."""
    check_both(adapter, signature)
    letters = signature.letters()
    if len(letters) == 0 or letters[-1] == Signature.MARK:
        return None
    return follow(adapter, letters[:-1]).fault_at(letters[-1])


def is_right(adapter, signature):
    """Whether the steps of all arguments of a signature are right."""
    check_both(adapter, signature)
    return is_right_for(adapter, signature.letters())


def first_wrong(adapter):
    """The first signature for which the adapter is not right; None if there is none."""
    check_adapter(adapter)
    letters = adapter.entry_walk().wrong
    if letters is None:
        return None
    book = adapter.book
    return Signature(book, *letters)


def table(adapter):
    """The list of all reached entries, sorted; None if the adapter is not right for all signatures."""
    check_adapter(adapter)
    walk = adapter.entry_walk()
    if walk.wrong is not None:
        return None
    return walk.entries_in_sequence()


def ways(adapter):
    """The tuples of a reached entry and the first signature that leads to it by right steps, sorted by entries."""
    check_adapter(adapter)
    return adapter.entry_walk().ways_in_sequence(adapter.book)


def shown(adapter):
    """Values, garbage of the call and garbage of the run that show the first wrong bit; None if there is none."""
    signature = first_wrong(adapter)
    if signature is None or fault(adapter, signature)[0] != "bit":
        return None
    letters = signature.letters()
    values = [0] * len(signature.arguments())
    values[-1] = follow(adapter, letters[:-1]).wrong_value(letters[-1])
    return values, [255], [255]


def is_table(adapter, value):
    """Whether value is the table."""
    wanted = table(adapter)
    if wanted is None or not is_list(value) or len(value) != len(wanted):
        return False
    return all([is_same_entry(one, other) for one, other in zip(value, wanted)])


def is_shown(adapter, value):
    """Whether value is a tuple that shows the first wrong bit."""
    signature = first_wrong(adapter)
    if signature is None or fault(adapter, signature)[0] != "bit":
        return False
    if not isinstance(value, tuple) or len(value) != 3 or not is_list(value[0]):
        return False
    values, garbage, other_garbage = value
    kinds = [signature.book.kind(name) for name in signature.arguments()]
    if len(values) != len(kinds) or not all([kind.holds(one) for kind, one in zip(kinds, values)]):
        return False
    if not are_bytes(garbage) or not are_bytes(other_garbage):
        return False
    frame = call(adapter.first, signature, values, garbage)
    return not keeps(adapter.second, signature, adapter(signature, frame, other_garbage), values)


def check_both(adapter, signature):
    """Refuses what is no adapter, no signature, or none of the adapter's book."""
    check_adapter(adapter)
    check_signature(signature)
    check_one_book([adapter, signature])


def is_same_entry(value, wanted):
    """Whether value is just this number, or just this tuple of such."""
    if isinstance(wanted, tuple):
        if not isinstance(value, tuple) or len(value) != len(wanted):
            return False
        return all([is_same_entry(one, other) for one, other in zip(value, wanted)])
    return is_integer(value) and value == wanted


def are_bytes(value):
    """Whether value is a list of BYTES."""
    return is_list(value) and all([is_byte(byte) for byte in value])
