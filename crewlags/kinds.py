"""What the kinds of values are that stand in arguments: indexes, pairs, sets, names."""

LETTERS = "abcdefghijklmnopqrstuvwxyz"
SIGNS = "abcdefghijklmnopqrstuvwxyz0123456789-"
LONGEST_NAME = 12


def is_whole(value):
    """Whether a value is an integer; a bool is none."""
    return isinstance(value, int) and not isinstance(value, bool)


def is_natural(value):
    """Whether a value is an integer from 0 on."""
    return is_whole(value) and value >= 0


def is_within(value, low, high):
    """Whether a value is an integer from low to high."""
    return is_whole(value) and low <= value <= high


def is_row(value):
    """Whether a value is a list or tuple."""
    return isinstance(value, (list, tuple))


def is_name(value):
    """Whether a value is a name of an activity or skill."""
    if not isinstance(value, str) or not 1 <= len(value) <= LONGEST_NAME:
        return False
    return value[0] in LETTERS and all([sign in SIGNS for sign in value])


def is_index(value, many):
    """Whether a value is the index of one of so many items."""
    return is_within(value, 0, many - 1)


def is_pair(value, many):
    """Whether a value is a tuple of two different indexes of so many items."""
    if not isinstance(value, tuple) or len(value) != 2:
        return False
    return is_index(value[0], many) and is_index(value[1], many) and value[0] != value[1]


def is_set(value, many):
    """Whether a value is an ascending tuple of different indexes of so many items."""
    if not isinstance(value, tuple):
        return False
    last = -1
    for a in value:
        if not is_index(a, many) or a <= last:
            return False
        last = a
    return True


def pairs_fault(pairs, many):
    """-1 if pairs is no list or tuple, the index of the first item that is no pair, or None."""
    if not is_row(pairs):
        return -1
    for at, pair in enumerate(pairs):
        if not is_pair(pair, many):
            return at
    return None


def distinct_fault(pairs, many, rising):
    """As pairs_fault, but no pair may be there twice, or, if rising, have its greater member first."""
    if not is_row(pairs):
        return -1
    told = {}
    for at, pair in enumerate(pairs):
        if not is_pair(pair, many) or pair in told or (rising and pair[0] > pair[1]):
            return at
        told[pair] = True
    return None
