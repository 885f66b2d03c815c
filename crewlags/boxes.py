"""Boxes of durations: what holds for all durations between low and high ones."""

from crewlags.amounts import is_amount, number, shared_bottom, times_bottom
from crewlags.cliques import greatest_cliques, set_rows
from crewlags.errors import NoBox, NoGraph
from crewlags.graphs import graph_fault
from crewlags.lengths import clique_rows, longest
from crewlags.masks import all_sets, graph_mask, mask_graph
from crewlags.shapes import need_shape
from crewlags.ways import least_masks


class Corners:
    """The corners of a box, their durations multiplied by one bottom.

    known has the least time of each corner that was asked for, by the set that is high.
    """

    def __init__(self, box, masks):
        every = [amount for span in box for amount in span]
        self.bottom = shared_bottom(every)
        self.low = times_bottom([low for low, _ in box], self.bottom)
        self.high = times_bottom([high for _, high in box], self.bottom)
        self.masks = masks
        self.known = {}

    def lengths(self, some):
        """The durations with high on a set and low on all others."""
        return [self.high[a] if a in some else self.low[a] for a in range(len(self.low))]

    def reach(self, some):
        """The sum of the high durations of a set."""
        return sum([self.high[a] for a in some])

    def least(self, some):
        """The least time at the corner with high on a set."""
        if some not in self.known:
            rows = clique_rows(self.lengths(some))
            self.known[some] = min([longest(rows, mask)[0] for mask in self.masks])
        return self.known[some]


def is_span(value):
    """Whether a value is a tuple of two amounts, the first at most the second."""
    if not isinstance(value, tuple) or len(value) != 2 or not is_amount(value[0]) or not is_amount(value[1]):
        return False
    low, high = times_bottom(value, shared_bottom(value))
    return low <= high


def need_box(shape, box):
    """Raises NoBox if it is no box of durations."""
    if not isinstance(box, tuple) or len(box) != len(shape.names):
        raise NoBox(-1)
    for at, span in enumerate(box):
        if not is_span(span):
            raise NoBox(at)


def need_resolving(shape, graph):
    """Raises NoGraph if it is no graph, or not that of an order that resolves the shape."""
    if graph_fault(shape, graph) is not None:
        raise NoGraph(len(graph))


def greatest_sets(many, mask):
    """The cliques of a graph that are part of no other one."""
    return [some for some, _, _ in greatest_cliques(set_rows(all_sets(many)), mask)]


def regret_of(corners, cliques):
    """The regret of a graph with such cliques, and the first of them that shows it.

    At the corner with high on a clique the graph may take longer than the clique; then
    the longer one shows more at its own corner.
    """
    rows = [corners.reach(some) - corners.least(some) for some in cliques]
    more = max(rows)
    return more, cliques[rows.index(more)]


def all_regrets(shape, box):
    """The masks of the least graphs, the regret of each, and the bottom of these."""
    masks = least_masks(shape, 0)
    corners = Corners(box, masks)
    every = set_rows(all_sets(len(shape.names)))
    regrets = []
    for mask in masks:
        cliques = [some for some, _, _ in greatest_cliques(every, mask)]
        regrets.append(regret_of(corners, cliques)[0])
    return masks, regrets, corners.bottom


def least_and_greatest(shape, box):
    """The least and the greatest least time in a box."""
    need_shape(shape)
    need_box(shape, box)
    corners = Corners(box, least_masks(shape, 0))
    times = [corners.least(()), corners.least(tuple(range(len(box))))]
    return number(times[0], corners.bottom), number(times[1], corners.bottom)


def regret(shape, graph, box):
    """By how much a graph can be longer than the least time in a box, durations that show it, and the clique."""
    need_shape(shape)
    need_resolving(shape, graph)
    need_box(shape, box)
    corners = Corners(box, least_masks(shape, 0))
    more, clique = regret_of(corners, greatest_sets(len(box), graph_mask(graph)))
    durations = tuple([high if a in clique else low for a, (low, high) in enumerate(box)])
    return number(more, corners.bottom), durations, clique


def calmest(shape, box):
    """The least regret in a box, and the least graphs that have it."""
    need_shape(shape)
    need_box(shape, box)
    masks, regrets, bottom = all_regrets(shape, box)
    least = min(regrets)
    return number(least, bottom), [mask_graph(mask) for mask, more in zip(masks, regrets) if more == least]


def always_best(shape, box):
    """The least graphs that take the least time for all durations of a box."""
    need_shape(shape)
    need_box(shape, box)
    masks, regrets, _ = all_regrets(shape, box)
    return [mask_graph(mask) for mask, more in zip(masks, regrets) if more == 0]


def on_greatest(shape, graph, box):
    """The activities that are in a longest clique for some durations of a box, and those that are for all."""
    need_shape(shape)
    need_resolving(shape, graph)
    need_box(shape, box)
    mask = graph_mask(graph)
    corners = Corners(box, [mask])
    some_time = []
    always = list(range(len(box)))
    # a clique is longest for some durations just if it is at the corner with high on it
    for clique in greatest_sets(len(box), mask):
        rows = clique_rows(corners.lengths(clique))
        reach = corners.reach(clique)
        if reach == longest(rows, mask)[0]:
            some_time.extend(clique)
        always = [a for a in always if longest([row for row in rows if a in row[1]], mask)[0] >= reach]
    return tuple(sorted(list({a: True for a in some_time}))), tuple(always)
