"""The parts of a project as they are handed in.

Each function tells what is wrong with a part: -1 for the part as a whole, the
index of its first item that is none, or None if nothing is.
"""

from crewlags.calendars import Calendar
from crewlags.kinds import is_index, is_row, is_set, is_within

MOST_TIME = 60
MOST_LEVEL = 1000
MOST_MACHINES = 3
MOST_STOCKS = 2
MOST_MODES = 3
MOST_FAMILY = 3
MOST_LAGS = 12
MOST_SINGLES = 2
MARKS = ("start", "end")


def first_none(rows, is_told):
    """The index of the first of some rows that is not what is told, or None."""
    for at, row in enumerate(rows):
        if not is_told(row):
            return at
    return None


def up_to_fault(rows, most, is_told):
    """What is wrong with a list or tuple of up to so many things."""
    if not is_row(rows) or len(rows) > most:
        return -1
    return first_none(rows, is_told)


def each_fault(rows, many, is_told):
    """What is wrong with a list or tuple of a thing for each of so many activities."""
    if not is_row(rows) or len(rows) != many:
        return -1
    return first_none(rows, is_told)


def maybe_fault(rows, many, is_told):
    """As each_fault, but there may also be nothing at all."""
    return None if is_row(rows) and len(rows) == 0 else each_fault(rows, many, is_told)


def whole_fault(value, low, high):
    """What is wrong with an integer from low to high."""
    return None if is_within(value, low, high) else -1


def levels_fault(levels, most):
    """What is wrong with capacities, or with amounts of stocks."""
    return up_to_fault(levels, most, lambda level: is_within(level, 0, MOST_LEVEL))


def is_tuple_of(value, many):
    """Whether a value is a tuple of so many items."""
    return isinstance(value, tuple) and len(value) == many


def are_within(values, mosts):
    """Whether values are a tuple of integers from 0 to the most that is told for each."""
    return is_tuple_of(values, len(mosts)) and all([is_within(value, 0, most) for value, most in zip(values, mosts)])


def is_mode(value, machines, stocks):
    """Whether a value is a mode beside machines and stocks that are right."""
    if not is_tuple_of(value, 4):
        return False
    work, demands, uses, cost = value
    if not is_within(work, 0, MOST_TIME) or not is_within(cost, 0, MOST_LEVEL):
        return False
    return are_within(demands, machines) and are_within(uses, [MOST_LEVEL] * len(stocks))


def are_modes(value, machines, stocks):
    """Whether a value is a tuple of the modes of an activity."""
    if not isinstance(value, tuple) or not 1 <= len(value) <= MOST_MODES:
        return False
    return all([is_mode(mode, machines, stocks) for mode in value])


def modes_fault(modes, many, machines, stocks):
    """What is wrong with the modes of so many activities."""
    return each_fault(modes, many, lambda value: are_modes(value, machines, stocks))


def calendars_fault(calendars, many):
    """What is wrong with the calendars."""
    return maybe_fault(calendars, many, lambda value: value is None or isinstance(value, Calendar))


def is_window(value):
    """Whether a value is a tuple of a release and of a deadline or None."""
    if not is_tuple_of(value, 2) or not is_within(value[0], 0, MOST_TIME):
        return False
    return value[1] is None or is_within(value[1], 0, MOST_TIME)


def windows_fault(windows, many):
    """What is wrong with the windows."""
    return maybe_fault(windows, many, is_window)


def families_fault(families, many):
    """What is wrong with the families."""
    return maybe_fault(families, many, lambda value: is_within(value, 0, MOST_FAMILY))


def is_mark(value):
    """Whether a value is a word for the start or the end."""
    return isinstance(value, str) and value in MARKS


def is_lag(value, many):
    """Whether a value is a lag between activities."""
    if not is_tuple_of(value, 6):
        return False
    one, a, other, b, low, high = value
    if not is_mark(one) or not is_mark(other) or not is_index(a, many) or not is_index(b, many):
        return False
    return is_within(low, -MOST_TIME, MOST_TIME) and (high is None or is_within(high, low, MOST_TIME))


def lags_fault(lags, many):
    """What is wrong with the lags."""
    return up_to_fault(lags, MOST_LAGS, lambda value: is_lag(value, many))


def is_table(value, many):
    """Whether a value is a table of set-ups between so many families."""
    if not is_tuple_of(value, many):
        return False
    return all([are_within(row, [MOST_TIME] * many) for row in value])


def is_single(value, many, kinds):
    """Whether a value is a tuple of the members of a single and of its table."""
    if not is_tuple_of(value, 2):
        return False
    return is_set(value[0], many) and len(value[0]) > 1 and is_table(value[1], kinds)


def singles_fault(singles, many, families):
    """What is wrong with the singles; one that has too much in common with the one ahead of it is none."""
    kinds = max(families, default=0) + 1
    at = up_to_fault(singles, MOST_SINGLES, lambda value: is_single(value, many, kinds))
    if at is None and len(singles) > 1:
        both = [a for a in singles[0][0] if a in singles[1][0]]
        return 1 if len(both) > 1 else None
    return at


def is_late(value):
    """Whether a value is None, or a tuple of what is due and of a rate."""
    return value is None or are_within(value, (MOST_TIME, MOST_LEVEL))


def late_fault(late, many):
    """What is wrong with what is due."""
    return maybe_fault(late, many, is_late)
