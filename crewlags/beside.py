"""Shapes beside one another, and what of a shape never matters.

As nothing changes what goes ahead of what here, all least times stay just if the
same sets of activities that are not ordered stay forbidden.
"""

from crewlags.errors import NoShape, NotBeside
from crewlags.limits import all_limits, first_over
from crewlags.shapes import Shape, allowed_sets, need_shape, ordered_pairs, unordered_sets
from crewlags.spare import Limits, least_parts, spare_asks, spare_machines, spare_skills, spare_workers


def need_beside(shape, other):
    """Raises an error if the two are no shapes that stand beside one another."""
    need_shape(shape)
    if not isinstance(other, Shape):
        raise NoShape("other", -1)
    if len(shape.names) != len(other.names):
        raise NotBeside("names")
    if ordered_pairs(shape) != ordered_pairs(other):
        raise NotBeside("before")


def on_set(shape, some):
    """Durations of 1 on a set and of 0 elsewhere."""
    return tuple([1 if a in some else 0 for a in range(len(shape.names))])


def forbidden_with(sets, machines, crew, asks):
    """Which of some sets are forbidden, for each a bool."""
    limits = all_limits(machines, crew, asks)
    return [first_over(limits, some) is not None for some in sets]


def without(rows, at):
    """Some rows without the one at an index, as a tuple."""
    return tuple(rows[:at]) + tuple(rows[at + 1:])


def loads_of(sets, demands):
    """The sum of the demands of each set."""
    return [sum([demands[a] for a in some]) for some in sets]


def longer_for(shape, other):
    """Durations for which a shape takes longer than the other one, with both times, or None.

    All parts of the first set are allowed in both, so two of them are enough.
    """
    need_beside(shape, other)
    allowed = allowed_sets(shape)
    for some in allowed_sets(other):
        if some not in allowed:
            return on_set(shape, some), 2, 1
    return None


def parted(shape, other):
    """Durations for which two shapes take unlike times, with both times, or None."""
    need_beside(shape, other)
    ones, others = allowed_sets(shape), allowed_sets(other)
    for some in unordered_sets(shape):
        if (some in ones) != (some in others):
            return on_set(shape, some), 1 if some in ones else 2, 1 if some in others else 2
    return None


def idle(shape):
    """What could be taken away, alone, so that all least times stay."""
    need_shape(shape)
    limits = Limits(shape)
    found = spare_machines(limits) + spare_workers(limits, len(shape.crew))
    return found + spare_skills(limits, shape.crew) + spare_asks(limits, shape.asks)


def enough(shape):
    """The least machines and workers with which alone the same sets of activities are allowed."""
    need_shape(shape)
    found = least_parts(Limits(shape), len(shape.crew))
    return sorted(found, key=lambda pair: (len(pair[0]) + len(pair[1]), pair))


def capacities(shape):
    """The least and the greatest capacity of each machine with which all least times stay."""
    need_shape(shape)
    sets = unordered_sets(shape)
    spans = []
    for at, (capacity, demands) in enumerate(shape.machines):
        others = forbidden_with(sets, without(shape.machines, at), shape.crew, shape.asks)
        loads = [load for load, over in zip(loads_of(sets, demands), others) if not over]
        beyond = [load for load in loads if load > capacity]
        spans.append((max([load for load in loads if load <= capacity]), min(beyond) - 1 if beyond else None))
    return spans
