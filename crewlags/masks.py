"""Sets of activities, and of pairs of activities, as the bits of integers.

The bit of a pair does not depend on how many activities there are.
"""

from itertools import combinations

PAIR_BITS = (
    (0, 1, 2, 8, 64, 1024, 32768),
    (1, 0, 4, 16, 128, 2048, 65536),
    (2, 4, 0, 32, 256, 4096, 131072),
    (8, 16, 32, 0, 512, 8192, 262144),
    (64, 128, 256, 512, 0, 16384, 524288),
    (1024, 2048, 4096, 8192, 16384, 0, 1048576),
    (32768, 65536, 131072, 262144, 524288, 1048576, 0),
)


def all_sets(many):
    """All sets of one or more of so many activities, the fewest members first, then ascending."""
    sets = []
    for size in range(1, many + 1):
        sets.extend(list(combinations(range(many), size)))
    return sets


def set_mask(some):
    """The bits of the members of a set."""
    mask = 0
    for a in some:
        mask |= 1 << a
    return mask


def members(mask):
    """The ascending list of the numbers whose bits are set."""
    return [at for at in range(mask.bit_length()) if mask >> at & 1]


def single_bits(mask):
    """The ascending list of the bits of a mask, each alone."""
    return [1 << at for at in members(mask)]


def bit_count(mask):
    """How many bits of a mask are set."""
    return f"{mask:b}".count("1")


def graph_mask(pairs):
    """The bits of pairs, whichever member stands first in them."""
    mask = 0
    for one, other in pairs:
        mask |= PAIR_BITS[one][other]
    return mask


def within_mask(some):
    """The bits of all pairs of members of a set."""
    return graph_mask([(one, other) for at, one in enumerate(some) for other in some[:at]])


def every_pair(many):
    """The bits of all pairs of so many activities."""
    return within_mask(list(range(many)))


def mask_graph(mask):
    """The ascending list of the pairs of a mask, the lesser member first."""
    size = len(PAIR_BITS)
    return [(one, other) for one in range(size) for other in range(one + 1, size) if mask & PAIR_BITS[one][other]]


def is_part(mask, whole):
    """Whether all bits of a mask are bits of the whole."""
    return mask & whole == mask
