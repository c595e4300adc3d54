"""Whether adapters are right, for one signature and for all of them [64], [66], [71], [72]."""

from unlikecalls.adapters import check_adapter
from unlikecalls.basics import is_byte, is_integer, is_list
from unlikecalls.calls import call, keeps
from unlikecalls.entries import entry_of, passings, walk_entries
from unlikecalls.kinds import check_one_book
from unlikecalls.signatures import Signature, check_signature


def entry(adapter, signature):
    """The entry that a signature leads to, whether or not the steps are right."""
    check_both(adapter, signature)
    return entry_of(adapter, signature)


def fault(adapter, signature):
    """The fault of the step of the last argument; None if it is right, or if the last letter is none."""
    check_both(adapter, signature)
    if len(signature) == 0 or signature[len(signature) - 1] == Signature.MARK:
        return None
    return passings(adapter, signature)[-1].fault()


def is_right(adapter, signature):
    """Whether the steps of all arguments of a signature are right."""
    check_both(adapter, signature)
    return all([passing.fault() is None for passing in passings(adapter, signature)])


def first_wrong(adapter):
    """The first signature for which the adapter is not right; None if there is none."""
    check_adapter(adapter)
    return walk_entries(adapter)[1]


def table(adapter):
    """The list of all reached entries, sorted; None if the adapter is not right for all signatures."""
    check_adapter(adapter)
    reached, wrong = walk_entries(adapter)
    if wrong is not None:
        return None
    return sorted(reached)


def ways(adapter):
    """The tuples of a reached entry and the first signature that leads to it by right steps, sorted by entries."""
    check_adapter(adapter)
    book = adapter.book
    reached, _ = walk_entries(adapter)
    found = []
    for one in sorted(reached):
        letters = reached[one]
        found.append((one, Signature(book, *letters)))
    return found


def shown(adapter):
    """Values, garbage of the call and garbage of the run that show the first wrong bit; None if there is none."""
    signature = first_wrong(adapter)
    if signature is None or fault(adapter, signature)[0] != "bit":
        return None
    values = [0] * len(signature.arguments())
    values[-1] = passings(adapter, signature)[-1].wrong_value()
    return values, [255], [255]


def is_table(adapter, value):
    """Whether value is the table."""
    wanted = table(adapter)
    if wanted is None or not is_list(value) or len(value) != len(wanted):
        return False
    return all([is_same_entry(one, other) for one, other in zip(value, wanted)])


def is_shown(adapter, value):
    """Whether value is a tuple that shows the first wrong bit."""
    signature = first_wrong(adapter)
    if signature is None or fault(adapter, signature)[0] != "bit":
        return False
    if not isinstance(value, tuple) or len(value) != 3 or not is_list(value[0]):
        return False
    values, garbage, other_garbage = value
    kinds = [signature.book.kind(name) for name in signature.arguments()]
    if len(values) != len(kinds) or not all([kind.holds(one) for kind, one in zip(kinds, values)]):
        return False
    if not are_bytes(garbage) or not are_bytes(other_garbage):
        return False
    frame = call(adapter.first, signature, values, garbage)
    return not keeps(adapter.second, signature, adapter(signature, frame, other_garbage), values)


def check_both(adapter, signature):
    """Refuses what is no adapter, no signature, or none of the adapter's book."""
    check_adapter(adapter)
    check_signature(signature)
    check_one_book([adapter, signature])


def is_same_entry(value, wanted):
    """Whether value is just this number, or just this tuple of such."""
    if isinstance(wanted, tuple):
        if not isinstance(value, tuple) or len(value) != len(wanted):
            return False
        return all([is_same_entry(one, other) for one, other in zip(value, wanted)])
    return is_integer(value) and value == wanted


def are_bytes(value):
    """Whether value is a list of BYTES."""
    return is_list(value) and all([is_byte(byte) for byte in value])
