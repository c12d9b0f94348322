"""What any value may be asked: whether it is a number, a sequence, octets."""

from outsoonest.errors import BadOctets


def is_integer(value):
    """Whether any value is an integer; True and False are none."""
    return isinstance(value, int) and not isinstance(value, bool)


def is_number(value):
    """Whether any value is an integer from 0 on."""
    return is_integer(value) and value >= 0


def is_within(value, low, high):
    """Whether any value is an integer from low to high."""
    return is_integer(value) and low <= value <= high


def is_sequence(value):
    """Whether any value is a list or a tuple."""
    return isinstance(value, (list, tuple))


def is_row_of(value, many):
    """Whether any value is a sequence of just so many parts."""
    return is_sequence(value) and len(value) == many


def is_ascending(value, many):
    """Whether any value is a sequence of ascending numbers below many."""
    if not is_sequence(value):
        return False
    behind = -1
    for part in value:
        if not is_within(part, behind + 1, many - 1):
            return False
        behind = part
    return True


def need_octets(value):
    """Any value that is octets, as a tuple; BadOctets for any other one."""
    if not is_sequence(value):
        raise BadOctets(-1)
    for at, item in enumerate(value):
        if not is_within(item, 0, 255):
            raise BadOctets(at)
    return tuple(value)
