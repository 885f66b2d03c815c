"""Cliques: sets of activities of which each two are a pair of a graph.

Sets are looked through as rows (set, its bits, the bits of its pairs), those
with the fewest members first, so that nothing has to be told again for each graph.
"""

from crewlags.masks import bit_count, is_part, set_mask, within_mask


def set_rows(sets):
    """The rows of some sets."""
    return [(some, set_mask(some), within_mask(some)) for some in sets]


def first_greatest(rows, mask):
    """The first of the sets with the most members that are cliques of a graph; () if none is."""
    best = ()
    for some, _, pairs in rows:
        if len(some) > len(best) and is_part(pairs, mask):
            best = some
    return best


def greatest_cliques(rows, mask):
    """The rows of the cliques of a graph that are part of no other one, of those of all sets."""
    kept = []
    for row in reversed(rows):
        if is_part(row[2], mask) and not any([is_part(row[1], other[1]) for other in kept]):
            kept.append(row)
    return kept[::-1]


def heights(cliques, sets):
    """The height of each of some sets in a graph whose greatest cliques are told, all of them by their bits."""
    return [max([bit_count(clique & bits) for clique in cliques]) for bits in sets]
