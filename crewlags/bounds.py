"""Linear bounds of the least time that hold for all durations."""

from crewlags.amounts import is_amount, number, numbers, shared_bottom, sum_of, sum_of_products, times_bottom
from crewlags.errors import NoBound
from crewlags.kinds import is_set
from crewlags.needs import need_durations, need_weights
from crewlags.shapes import allowed_sets, greatest_allowed, need_shape
from crewlags.simplex import best_weights


def weight_of(some, weights):
    """The sum of the weights of the members of a set, for integers."""
    return sum([weights[a] for a in some])


def too_heavy_set(shape, weights):
    """The first allowed set that weighs more than 1, or None."""
    bottom = shared_bottom(weights)
    tops = times_bottom(weights, bottom)
    for some in allowed_sets(shape):
        if weight_of(some, tops) > bottom:
            return some
    return None


def is_share(item, allowed, many):
    """Whether an item of a cover is an allowed set and an amount."""
    return is_set(item[0], many) and item[0] in allowed and is_amount(item[1])


def need_cover(shape, cover):
    """Raises NoBound if a cover is no list of allowed sets with amounts."""
    if not isinstance(cover, list) or not all([isinstance(item, tuple) and len(item) == 2 for item in cover]):
        raise NoBound("cover", -1)
    allowed = allowed_sets(shape)
    for at, item in enumerate(cover):
        if not is_share(item, allowed, len(shape.names)):
            raise NoBound("cover", at)


def first_lack(durations, cover):
    """The first activity whose duration the cover does not reach, or None."""
    amounts = [amount for _, amount in cover]
    bottom = shared_bottom(list(durations) + amounts)
    lengths = times_bottom(durations, bottom)
    tops = times_bottom(amounts, bottom)
    for a, length in enumerate(lengths):
        if sum([top for top, (some, _) in zip(tops, cover) if a in some]) < length:
            return a
    return None


def too_heavy(shape, weights):
    """The first allowed set that weighs more than 1, or None."""
    need_shape(shape)
    need_weights(weights, len(shape.names))
    return too_heavy_set(shape, weights)


def heaviest(shape, weights):
    """The greatest weight of an allowed set."""
    need_shape(shape)
    need_weights(weights, len(shape.names))
    bottom = shared_bottom(weights)
    tops = times_bottom(weights, bottom)
    return number(max([weight_of(some, tops) for some in allowed_sets(shape)]), bottom)


def best_bound(shape, durations):
    """The value of the best bound, its weights, and the cover that shows it."""
    need_shape(shape)
    need_durations(durations, len(shape.names), len(shape.names))
    bottom = shared_bottom(durations)
    sets = greatest_allowed(shape)
    rows = [[1 if a in some else 0 for a in range(len(durations))] for some in sets]
    weights, amounts, turn = best_weights(rows, times_bottom(durations, bottom))
    cover = [(some, number(amount, turn * bottom)) for some, amount in zip(sets, amounts) if amount > 0]
    return number(sum(amounts), turn * bottom), numbers(weights, turn), cover


def check_bound(shape, durations, bound):
    """Raises NoBound unless the weights bound the shape and the cover shows that they are the best ones."""
    need_shape(shape)
    many = len(shape.names)
    need_durations(durations, many, many)
    if not isinstance(bound, tuple) or len(bound) != 3 or not is_amount(bound[0]):
        raise NoBound("bound", -1)
    value, weights, cover = bound
    need_weights(weights, many)
    if too_heavy_set(shape, weights) is not None:
        raise NoBound("weights", -1)
    need_cover(shape, cover)
    lack = first_lack(durations, cover)
    if lack is not None:
        raise NoBound("lacks", lack)
    if sum_of_products(weights, durations) != value:
        raise NoBound("value", 0)
    if sum_of([amount for _, amount in cover]) != value:
        raise NoBound("value", 1)
