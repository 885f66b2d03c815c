"""Graphs of orders, and the least ones that resolve a shape."""

from crewlags.directing import directions
from crewlags.errors import NoGraph
from crewlags.kinds import distinct_fault
from crewlags.masks import every_pair, graph_mask, is_part, mask_graph, within_mask
from crewlags.orders import first_free
from crewlags.shapes import least_forbidden, need_shape, ordered_pairs
from crewlags.ways import least_masks


def need_graph(shape, graph):
    """Raises NoGraph if it is no graph."""
    at = distinct_fault(graph, len(shape.names), True)
    if at is not None:
        raise NoGraph(at)


def first_order(shape, mask):
    """The first order of the shape with the pairs of a mask, or None."""
    ahead = ordered_pairs(shape)
    if not is_part(graph_mask(ahead), mask):
        return None
    order, _ = directions(len(shape.names), mask, ahead)
    return order


def sure_mask(shape):
    """The bits of the pairs that are ordered or, as a set, forbidden."""
    mask = graph_mask(ordered_pairs(shape))
    for some in least_forbidden(shape):
        if len(some) == 2:
            mask |= within_mask(some)
    return mask


def orient(shape, graph):
    """The first order of the shape whose graph it is, or None."""
    need_shape(shape)
    need_graph(shape, graph)
    return first_order(shape, graph_mask(graph))


def graph_fault(shape, graph):
    """Why it is not the graph of an order that resolves the shape, or None."""
    need_shape(shape)
    need_graph(shape, graph)
    mask = graph_mask(graph)
    if first_order(shape, mask) is None:
        return "order", ()
    some = first_free(shape, mask)
    return None if some is None else ("set", some)


def least_graphs(shape):
    """The graphs of orders that resolve the shape of which no part is one."""
    need_shape(shape)
    return [mask_graph(mask) for mask in least_masks(shape, 0)]


def least_within(shape, graph):
    """The first least graph whose pairs are all in the graph, or None."""
    need_shape(shape)
    need_graph(shape, graph)
    barred = every_pair(len(shape.names)) & ~graph_mask(graph)
    masks = least_masks(shape, barred)
    return mask_graph(masks[0]) if masks else None


def sure_pairs(shape):
    """The pairs that are in all least graphs."""
    need_shape(shape)
    return mask_graph(sure_mask(shape))


def idle_pairs(shape):
    """The pairs that are in no least graph."""
    need_shape(shape)
    idle = every_pair(len(shape.names))
    for mask in least_masks(shape, 0):
        idle &= ~mask
    return mask_graph(idle)


def single(shape):
    """The least graph if there is only one, otherwise why there are several."""
    need_shape(shape)
    for some in least_forbidden(shape):
        if len(some) > 2:
            return "set", some
    sure = sure_mask(shape)
    word = "order" if first_order(shape, sure) is None else "graph"
    return word, mask_graph(sure)
