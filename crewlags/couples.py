"""The pairs of members of a set."""

from itertools import combinations, permutations


def couples(some):
    """All pairs of two members, the first one ahead of the second in the set."""
    rows = list(some)
    return list(combinations(rows, 2))


def both_ways(some):
    """All pairs of two different members, in both directions, ascending for an ascending set."""
    rows = list(some)
    return list(permutations(rows, 2))
