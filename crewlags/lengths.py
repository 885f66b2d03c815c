"""How long graphs take, and the least time of a shape."""

from crewlags.amounts import number, numbers, shared_bottom, times_bottom
from crewlags.graphs import first_order, need_graph
from crewlags.masks import all_sets, graph_mask, is_part, mask_graph, within_mask
from crewlags.needs import need_activity, need_durations
from crewlags.schedules import earliest_begins
from crewlags.shapes import need_shape
from crewlags.ways import least_masks


def clique_rows(lengths):
    """A row (sum of lengths, set, bits of its pairs) for each set, the greatest sum first.

    Of those with one sum, the fewest members are first, then ascending.
    """
    rows = [(sum([lengths[a] for a in some]), some, within_mask(some)) for some in all_sets(len(lengths))]
    return sorted(rows, key=lambda row: -row[0])


def longest(rows, mask):
    """The first of the rows whose set is a clique of the graph; that of one activity always is."""
    at = 0
    while not is_part(rows[at][2], mask):
        at += 1
    return rows[at]


def frontier(masks, lengths, a):
    """The graphs that are the best ones for some duration of a, as pairs (flat, base), flat ascending.

    flat is what a graph takes if a has the duration 0, base the part of it that
    the cliques with a take.
    """
    rows = clique_rows([0 if one == a else length for one, length in enumerate(lengths)])
    beside = [row for row in rows if a in row[1]]
    kept = []
    for pair in sorted([(longest(rows, mask)[0], longest(beside, mask)[0]) for mask in masks]):
        if not kept or pair[1] < kept[-1][1]:
            kept.append(pair)
    return kept


def pieces(pairs):
    """The pieces (start, time, slope) of the least time over the duration of an activity, told by its frontier.

    Each graph in turn takes its flat time, and grows then until the next one takes no longer.
    """
    rows = []
    for at, (flat, base) in enumerate(pairs):
        start = flat - pairs[at - 1][1] if at else 0
        if start < flat - base:
            rows.append((start, flat, 0))
        rows.append((flat - base, flat, 1))
    return rows


def slack_in(rows, length):
    """By how much a length can grow if the time of the pieces is to stay."""
    for row, after in zip(rows, rows[1:]):
        if after[0] > length:
            return 0 if row[2] else after[0] - length
    return 0


def slack_of(masks, lengths, a):
    """The slack of an activity, the durations being integers."""
    return slack_in(pieces(frontier(masks, lengths, a)), lengths[a])


def time_of(shape, graph, durations):
    """The time that a graph takes, and the first clique that takes it."""
    need_shape(shape)
    need_graph(shape, graph)
    need_durations(durations, len(shape.names), len(shape.names))
    bottom = shared_bottom(durations)
    time, clique, _ = longest(clique_rows(times_bottom(durations, bottom)), graph_mask(graph))
    return number(time, bottom), clique


def least_time(shape, durations):
    """The least time, the starts that take it, and the order and the clique that show it."""
    need_shape(shape)
    need_durations(durations, len(shape.names), len(shape.names))
    bottom = shared_bottom(durations)
    lengths = times_bottom(durations, bottom)
    rows = clique_rows(lengths)
    masks = least_masks(shape, 0)
    best = min(masks, key=lambda mask: longest(rows, mask)[0])
    time, clique, _ = longest(rows, best)
    order = first_order(shape, best)
    return number(time, bottom), numbers(earliest_begins(order, lengths), bottom), order, clique


def best_graphs(shape, durations):
    """The least graphs that take the least time."""
    need_shape(shape)
    need_durations(durations, len(shape.names), len(shape.names))
    rows = clique_rows(times_bottom(durations, shared_bottom(durations)))
    masks = least_masks(shape, 0)
    times = [longest(rows, mask)[0] for mask in masks]
    least = min(times)
    return [mask_graph(mask) for mask, time in zip(masks, times) if time == least]


def longer_at(shape, one, other):
    """Durations for which the graph one is longer than the other one, or None."""
    need_shape(shape)
    need_graph(shape, one)
    need_graph(shape, other)
    more = mask_graph(graph_mask(one) & ~graph_mask(other))
    if not more:
        return None
    return tuple([1 if a in more[0] else 0 for a in range(len(shape.names))])


def growth(shape, durations, a):
    """The pieces of the least time as the duration of an activity runs from 0 on."""
    need_shape(shape)
    need_durations(durations, len(shape.names), len(shape.names))
    need_activity(a, len(shape.names))
    bottom = shared_bottom(durations)
    rows = pieces(frontier(least_masks(shape, 0), times_bottom(durations, bottom), a))
    return [(number(start, bottom), number(time, bottom), slope) for start, time, slope in rows]


def slack(shape, durations, a):
    """By how much the duration of an activity can grow if the least time is to stay."""
    need_shape(shape)
    need_durations(durations, len(shape.names), len(shape.names))
    need_activity(a, len(shape.names))
    bottom = shared_bottom(durations)
    return number(slack_of(least_masks(shape, 0), times_bottom(durations, bottom), a), bottom)


def critical(shape, durations):
    """The activities whose slack is 0."""
    need_shape(shape)
    need_durations(durations, len(shape.names), len(shape.names))
    lengths = times_bottom(durations, shared_bottom(durations))
    masks = least_masks(shape, 0)
    return [a for a in range(len(lengths)) if slack_of(masks, lengths, a) == 0]
