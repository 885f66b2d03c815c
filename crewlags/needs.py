"""What arguments need to be: durations, starts, weights, indexes of activities, and integers."""

from crewlags.amounts import amounts_fault
from crewlags.errors import NoActivity, NoDurations, NoNumber, NoStarts, NoWeights
from crewlags.kinds import is_index, is_natural


def need_durations(durations, least, most):
    """Raises NoDurations if it tells no durations of least to most activities."""
    at = amounts_fault(durations, least, most)
    if at is not None:
        raise NoDurations(at)


def need_starts(starts, many):
    """Raises NoStarts if it tells no starts of so many activities."""
    at = amounts_fault(starts, many, many)
    if at is not None:
        raise NoStarts(at)


def need_weights(weights, many):
    """Raises NoWeights if it tells no weights of so many activities."""
    at = amounts_fault(weights, many, many)
    if at is not None:
        raise NoWeights(at)


def need_activity(one, many):
    """Raises NoActivity if it is no index of one of so many activities."""
    if not is_index(one, many):
        raise NoActivity(one)


def need_number(value, part):
    """Raises NoNumber if it is no integer from 0 on."""
    if not is_natural(value):
        raise NoNumber(part)


def need_limit(value, part):
    """Raises NoNumber if it is neither None nor an integer from 0 on."""
    if value is not None:
        need_number(value, part)
