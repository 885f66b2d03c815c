"""Orders, and durations, that are drawn by chance: mixes of graphs, and mixes of sets."""

from crewlags.amounts import is_amount, number, shared_bottom, sum_of, sum_of_products, times_bottom
from crewlags.cliques import greatest_cliques, heights, set_rows
from crewlags.errors import NoBlind, NoMix
from crewlags.graphs import graph_fault
from crewlags.kinds import distinct_fault, is_set
from crewlags.lengths import clique_rows, longest
from crewlags.masks import all_sets, graph_mask, mask_graph, set_mask
from crewlags.needs import need_durations
from crewlags.shapes import allowed_sets, greatest_allowed, need_shape
from crewlags.simplex import best_weights
from crewlags.ways import least_masks


def shares_fault(mix, is_told):
    """Why something is no list of what is told with amounts that are together 1: as NoMix has it, or None."""
    if not isinstance(mix, list) or not mix:
        return -1
    for at, item in enumerate(mix):
        if not isinstance(item, tuple) or len(item) != 2 or not is_told(item[0]) or not is_amount(item[1]):
            return at
    return None if sum_of(shares_of(mix)) == 1 else len(mix)


def mix_fault(shape, mix):
    """Why something is no mix of graphs, or None."""
    many = len(shape.names)
    return shares_fault(mix, lambda graph: distinct_fault(graph, many, True) is None)


def sets_fault(shape, sets):
    """Why something is no mix of allowed sets, or None."""
    many = len(shape.names)
    allowed = allowed_sets(shape)
    return shares_fault(sets, lambda some: is_set(some, many) and some in allowed)


def need_mix(shape, mix):
    """Raises NoMix if it is no mix of graphs."""
    at = mix_fault(shape, mix)
    if at is not None:
        raise NoMix(at)


def need_sets(shape, sets):
    """Raises NoMix if it is no mix of allowed sets."""
    at = sets_fault(shape, sets)
    if at is not None:
        raise NoMix(at)


def shares_of(mix):
    """The amounts of a mix, of graphs or of sets."""
    return [amount for _, amount in mix]


def height_columns(shape, masks, sets):
    """For each of some graphs the list of the heights of the sets."""
    every = set_rows(all_sets(len(shape.names)))
    told = [set_mask(some) for some in sets]
    columns = []
    for mask in masks:
        cliques = [bits for _, bits, _ in greatest_cliques(every, mask)]
        columns.append(heights(cliques, told))
    return columns


def mean_of(tops, values):
    """The sum of the values, each as often as its top tells."""
    return sum([top * value for top, value in zip(tops, values)])


def worst_of(shape, mix):
    """What worst_mix tells of a mix that is one."""
    sets = allowed_sets(shape)
    shares = shares_of(mix)
    bottom = shared_bottom(shares)
    tops = times_bottom(shares, bottom)
    columns = height_columns(shape, [graph_mask(graph) for graph, _ in mix], sets)
    means = [mean_of(tops, [column[at] for column in columns]) for at in range(len(sets))]
    most = max(means)
    return number(most, bottom), sets[means.index(most)]


def best_against(shape, sets):
    """What against tells of a mix of sets that is one."""
    shares = shares_of(sets)
    bottom = shared_bottom(shares)
    tops = times_bottom(shares, bottom)
    masks = least_masks(shape, 0)
    means = [mean_of(tops, column) for column in height_columns(shape, masks, [some for some, _ in sets])]
    least = min(means)
    return number(least, bottom), mask_graph(masks[means.index(least)])


def mean_time(shape, mix, durations):
    """The mean time of an order that is drawn by chance."""
    need_shape(shape)
    need_mix(shape, mix)
    need_durations(durations, len(shape.names), len(shape.names))
    bottom = shared_bottom(durations)
    rows = clique_rows(times_bottom(durations, bottom))
    times = [number(longest(rows, graph_mask(graph))[0], bottom) for graph, _ in mix]
    return sum_of_products(shares_of(mix), times)


def worst_mix(shape, mix):
    """How many times longer than the least time the mean time can be, and the first set that shows it."""
    need_shape(shape)
    need_mix(shape, mix)
    return worst_of(shape, mix)


def against(shape, sets):
    """The least mean time that an order can have if a set is drawn by chance, and the first least graph that has it."""
    need_shape(shape)
    need_sets(shape, sets)
    return best_against(shape, sets)


def blind(shape):
    """The least factor that worst_mix tells of a mix, such a mix, and the mix of sets that shows that it is the least.

    With shares of the graphs by which no allowed set has a mean height above 1, the
    greatest that they can be together is 1 through the factor.
    """
    need_shape(shape)
    masks = least_masks(shape, 0)
    # a set has no less height than its parts
    sets = greatest_allowed(shape)
    columns = height_columns(shape, masks, sets)
    rows = [[column[at] for column in columns] for at in range(len(sets))]
    shares, amounts, bottom = best_weights(rows, [1] * len(masks))
    total = sum(shares)
    mix = [(mask_graph(mask), number(share, total)) for mask, share in zip(masks, shares) if share > 0]
    told = [(some, number(amount, total)) for some, amount in zip(sets, amounts) if amount > 0]
    return number(bottom, total), mix, told


def check_blind(shape, answer):
    """Raises NoBlind unless each of the two mixes of an answer shows that the other one is best."""
    need_shape(shape)
    if not isinstance(answer, tuple) or len(answer) != 3 or not is_amount(answer[0]):
        raise NoBlind("answer", -1)
    factor, mix, sets = answer
    at = mix_fault(shape, mix)
    if at is not None:
        raise NoBlind("mix", at)
    for place, (graph, _) in enumerate(mix):
        if graph_fault(shape, graph) is not None:
            raise NoBlind("graph", place)
    at = sets_fault(shape, sets)
    if at is not None:
        raise NoBlind("sets", at)
    if worst_of(shape, mix)[0] != factor:
        raise NoBlind("value", 0)
    if best_against(shape, sets)[0] != factor:
        raise NoBlind("value", 1)
