"""Orders: what is to end ahead of what, whatever the durations are."""

from itertools import permutations

from crewlags.ahead import after_pairs, all_after, is_ring, told_after
from crewlags.errors import NoOrder, NoPairs
from crewlags.kinds import distinct_fault, pairs_fault
from crewlags.masks import graph_mask, is_part, mask_graph, within_mask
from crewlags.shapes import after_of, least_forbidden, need_shape, ordered_pairs


def keeps_order(shape, pairs):
    """Whether different pairs of activities are an order of the shape."""
    after = told_after(len(shape.names), pairs)
    # with (a, b) and (b, a), a would have to be behind itself, too, and no pair tells that
    closed_up = all([is_part(after[b], after[a]) for a, b in pairs])
    return closed_up and all([is_part(must, has) for must, has in zip(after_of(shape), after)])


def need_order(shape, order):
    """Raises NoOrder if it is no order of the shape."""
    at = distinct_fault(order, len(shape.names), False)
    if at is not None:
        raise NoOrder(at)
    if not keeps_order(shape, order):
        raise NoOrder(len(order))


def first_free(shape, mask):
    """The first forbidden set without a pair of the mask, in which all ordered pairs are, or None."""
    # what is free has no ordered pairs, and the first of such has no smaller forbidden part
    for some in least_forbidden(shape):
        if not within_mask(some) & mask:
            return some
    return None


def is_ring_of(ring, after):
    """Whether each of some activities is ahead of the next one, and the last one of the first one."""
    return all([after[ring[at - 1]] >> a & 1 for at, a in enumerate(ring)])


def least_ring(many, pairs):
    """The first ring of the fewest activities along pairs that have one."""
    after = told_after(many, pairs)
    for size in range(2, many + 1):
        for ring in permutations(range(many), size):
            if is_ring_of(ring, after):
                return ring
    return ()


def is_order(shape, value):
    """Whether a value is an order of the shape."""
    need_shape(shape)
    return distinct_fault(value, len(shape.names), False) is None and keeps_order(shape, value)


def closed(shape, pairs):
    """The order of the fewest pairs with all told ones, or the first least ring that they close."""
    need_shape(shape)
    many = len(shape.names)
    at = pairs_fault(pairs, many)
    if at is not None:
        raise NoPairs(at)
    told = ordered_pairs(shape) + list(pairs)
    after = all_after(many, told)
    if is_ring(after):
        return "ring", least_ring(many, told)
    return "order", after_pairs(after)


def unresolved(shape, order):
    """The first forbidden set that is free in an order, or None."""
    need_shape(shape)
    need_order(shape, order)
    return first_free(shape, graph_mask(order))


def graph_of(shape, order):
    """The graph of an order."""
    need_shape(shape)
    need_order(shape, order)
    return mask_graph(graph_mask(order))
