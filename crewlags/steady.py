"""How much longer than the least time a graph can ever be."""

from crewlags.cliques import first_greatest, set_rows
from crewlags.errors import NoGraph, NoSet
from crewlags.graphs import first_order, need_graph
from crewlags.kinds import is_set
from crewlags.masks import all_sets, graph_mask, is_part, mask_graph, set_mask
from crewlags.shapes import allowed_sets, need_shape
from crewlags.ways import least_masks


def height(shape, graph, some):
    """The height of a set in a graph, and the first set of so many members that shows it."""
    need_shape(shape)
    many = len(shape.names)
    need_graph(shape, graph)
    if not is_set(some, many):
        raise NoSet(some)
    whole = set_mask(some)
    rows = [row for row in set_rows(all_sets(many)) if is_part(row[1], whole)]
    clique = first_greatest(rows, graph_mask(graph))
    return len(clique), clique


def worst(shape, graph):
    """How many times longer than the least time a graph can be, and the first set that shows it."""
    need_shape(shape)
    need_graph(shape, graph)
    some = first_greatest(set_rows(allowed_sets(shape)), graph_mask(graph))
    return len(some), some


def ratio(shape, one, other):
    """How many times longer than the graph other the graph one can be, and the first set that shows it."""
    need_shape(shape)
    need_graph(shape, one)
    need_graph(shape, other)
    beside = graph_mask(other)
    if first_order(shape, beside) is None:
        raise NoGraph(len(other))
    free = [row for row in set_rows(all_sets(len(shape.names))) if not row[2] & beside]
    some = first_greatest(free, graph_mask(one))
    return len(some), some


def steadiest(shape):
    """The least factor that worst tells of a least graph, and the first one of which it tells it."""
    need_shape(shape)
    rows = set_rows(allowed_sets(shape))
    masks = least_masks(shape, 0)
    factors = [len(first_greatest(rows, mask)) for mask in masks]
    factor = min(factors)
    return factor, mask_graph(masks[factors.index(factor)])
