"""The search for the least graphs of a shape, as masks of pairs.

Pairs are added one at a time to the pairs that all least graphs have. What is
not yet the graph of an order that resolves the shape lacks one of some pairs:
those of a forbidden set, or the missing ones that force a pair into both
directions. Each of them in turn is added, and those ahead of it are barred, so
that nothing is looked at twice. All graphs of so many pairs are looked at
ahead of those with more, so what has a found one as a part can be left.
"""

from crewlags.directing import directions
from crewlags.masks import bit_count, graph_mask, mask_graph, single_bits, within_mask
from crewlags.shapes import least_forbidden, ordered_pairs


def next_pairs(free, barred):
    """The bits of pairs that may come into the graph, of a set that has the fewest.

    The pairs that are in most sets come first: without them, little is left to try.
    """
    least = min([row & ~barred for row in free], key=bit_count)
    return sorted(single_bits(least), key=lambda bit: -sum([1 for row in free if row & bit]))


def has_part(mask, parts):
    """Whether one of the parts is a part of a mask."""
    for part in parts:
        if part & mask == part:
            return True
    return False


def grown(mask, barred, bits):
    """The masks with one more of the pairs, each with what is barred from then on."""
    rows = []
    for bit in bits:
        rows.append((mask | bit, barred))
        barred |= bit
    return rows


def next_level(level, many, ahead, cores, found):
    """The masks with one pair more than those of a level, and the found ones with those of the level."""
    rows = []
    found = list(found)
    for mask, barred in level:
        if has_part(mask, found):
            continue
        free = [row for row in cores if not row & mask]
        if free:
            rows.extend(grown(mask, barred, next_pairs(free, barred)))
            continue
        order, missing = directions(many, mask, ahead)
        if order is not None:
            found.append(mask)
        else:
            rows.extend(grown(mask, barred, single_bits(missing & ~barred)))
    return rows, found


def least_masks(shape, barred):
    """The masks of the least graphs that have no barred pair, in their order."""
    ahead = ordered_pairs(shape)
    start = graph_mask(ahead)
    if start & barred:
        return []
    cores = [within_mask(some) for some in least_forbidden(shape)]
    level = [(start, barred)]
    found = []
    while level:
        level, found = next_level(level, len(shape.names), ahead, cores, found)
    return sorted(found, key=lambda mask: (bit_count(mask), mask_graph(mask)))
