"""What goes ahead of what: a list with the mask of those behind it, for each activity."""

from crewlags.masks import members, set_mask


def told_after(many, pairs):
    """What is behind each of so many activities by the pairs directly."""
    return [set_mask([b for a, b in pairs if a == one]) for one in range(many)]


def with_pair(after, one, other):
    """What is behind each activity if one goes ahead of other, too, and so on."""
    more = after[other] | 1 << other
    return [mask | more if a == one or mask >> one & 1 else mask for a, mask in enumerate(after)]


def all_after(many, pairs):
    """What is behind each of so many activities by the pairs, directly or by others between."""
    after = [0] * many
    for one, other in pairs:
        after = with_pair(after, one, other)
    return after


def is_ring(after):
    """Whether some activity is behind itself."""
    return any([mask >> a & 1 for a, mask in enumerate(after)])


def after_pairs(after):
    """The ascending list of the pairs (a, b) with b behind a."""
    return [(a, b) for a, mask in enumerate(after) for b in members(mask)]
