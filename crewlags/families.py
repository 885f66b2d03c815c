"""Families: many sets at once, as the bits of an integer.

The bit of a set is that at the number which its own bits are, so that of the set of
none is the first one.
"""


def families_with(many):
    """For each of so many members the family of the sets that have it."""
    families = []
    size = 1
    for _ in range(many):
        families = [family | family << size for family in families]
        families.append(((1 << size) - 1) << size)
        size *= 2
    return families


def joined(families):
    """The sets that are in one of some families."""
    told = 0
    for family in families:
        told |= family
    return told


def family_over(demands, capacity):
    """The sets whose members demand more than a capacity."""
    loads = [0]
    for demand in demands:
        loads.extend([load + demand for load in loads])
    return sum([1 << at for at, load in enumerate(loads) if load > capacity])


def families_from(having, demands, most):
    """For each number from 0 to most the sets whose members demand at least so much.

    having tells for each member the sets that have it.
    """
    size = 1 << len(having)
    families = [(1 << size) - 1] + [0] * most
    for family, demand in zip(having, demands):
        if demand:
            less = [families[0]] * demand + families
            families = [told | one & family for told, one in zip(families, less)]
    return families


def least_of(families, having):
    """Of a family that has all greater ones of its sets, those with no smaller one in it."""
    greater = 0
    for at, family in enumerate(having):
        greater |= (families & ~family) << (1 << at)
    return families & ~greater
