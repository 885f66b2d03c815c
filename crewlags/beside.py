"""Shapes beside one another, and what of a shape never matters.

As nothing changes what goes ahead of what here, all least times stay just if the
same sets of activities that are not ordered stay forbidden: they are told by the
bits of an integer, one for each set.
"""

from itertools import combinations

from crewlags.errors import NoShape, NotBeside
from crewlags.limits import able, all_limits, crew_limits, first_over
from crewlags.masks import bit_count, is_part, set_mask
from crewlags.shapes import Shape, allowed_sets, need_shape, ordered_pairs, unordered_sets


def need_beside(shape, other):
    """Raises an error if the two are no shapes that stand beside one another."""
    need_shape(shape)
    if not isinstance(other, Shape):
        raise NoShape("other", -1)
    if len(shape.names) != len(other.names):
        raise NotBeside("names")
    if ordered_pairs(shape) != ordered_pairs(other):
        raise NotBeside("before")


def on_set(shape, some):
    """Durations of 1 on a set and of 0 elsewhere."""
    return tuple([1 if a in some else 0 for a in range(len(shape.names))])


def forbidden_with(sets, machines, crew, asks):
    """Which of some sets are forbidden, for each a bool."""
    limits = all_limits(machines, crew, asks)
    return [first_over(limits, some) is not None for some in sets]


def without(rows, at):
    """Some rows without the one at an index, as a tuple."""
    return tuple(rows[:at]) + tuple(rows[at + 1:])


def instead(rows, at, row):
    """Some rows with another one at an index, as a tuple."""
    return tuple(rows[:at]) + (row,) + tuple(rows[at + 1:])


def lesser_parts(shape):
    """What could be taken away, each with the machines, the crew and the asks that are left."""
    machines, crew, asks = shape.machines, shape.crew, shape.asks
    rows = [(("machine", at), without(machines, at), crew, asks) for at in range(len(machines))]
    rows.extend([(("worker", at), machines, without(crew, at), asks) for at in range(len(crew))])
    for at, worker in enumerate(crew):
        for place, skill in enumerate(worker):
            rows.append((("skill", at, skill), machines, instead(crew, at, without(worker, place)), asks))
    for a, ask in enumerate(asks):
        for place, (skill, _) in enumerate(ask):
            rows.append((("ask", a, skill), machines, crew, instead(asks, a, without(ask, place))))
    return rows


def bits_over(loads, capacity):
    """The bits of the sets whose load is more than a capacity."""
    return sum([1 << at for at, load in enumerate(loads) if load > capacity])


def loads_of(sets, demands):
    """The sum of the demands of each set."""
    return [sum([demands[a] for a in some]) for some in sets]


def machine_bits(shape, sets):
    """For each machine the bits of the sets that it forbids."""
    return [bits_over(loads_of(sets, demands), capacity) for capacity, demands in shape.machines]


def skill_rows(shape, sets):
    """For each set of skills: the workers with one of them, and the bits of the sets that so many forbid.

    These are a list: of the bits for no such worker, for one, and so on.
    """
    rows = []
    for (_, skills), _, demands in crew_limits(shape.crew, shape.asks):
        having = [at for at, worker in enumerate(shape.crew) if able([worker], skills)]
        loads = loads_of(sets, demands)
        rows.append((set_mask(having), [bits_over(loads, many) for many in range(len(having) + 1)]))
    return rows


def machines_forbid(forbids, machines):
    """The bits of the sets that some of the machines forbid."""
    bits = 0
    for at in machines:
        bits |= forbids[at]
    return bits


def workers_forbid(rows, workers):
    """The bits of the sets that some of the workers cannot serve."""
    mask = set_mask(workers)
    bits = 0
    for having, forbids in rows:
        bits |= forbids[bit_count(having & mask)]
    return bits


def all_parts(many):
    """All sets of so many indexes, also the one of none."""
    return [some for size in range(many + 1) for some in combinations(range(many), size)]


def same_forbidden(shape):
    """All (machines, workers) with which alone the same sets are forbidden, in ascending order of their number."""
    sets = unordered_sets(shape)
    forbids = machine_bits(shape, sets)
    rows = skill_rows(shape, sets)
    by_machines = [(part, machines_forbid(forbids, part)) for part in all_parts(len(shape.machines))]
    by_workers = [(part, workers_forbid(rows, part)) for part in all_parts(len(shape.crew))]
    whole = by_machines[-1][1] | by_workers[-1][1]
    found = []
    for machines, one in by_machines:
        found.extend([(machines, workers) for workers, other in by_workers if one | other == whole])
    return sorted(found, key=lambda pair: (len(pair[0]) + len(pair[1]), pair))


def longer_for(shape, other):
    """Durations for which a shape takes longer than the other one, with both times, or None.

    All parts of the first set are allowed in both, so two of them are enough.
    """
    need_beside(shape, other)
    allowed = allowed_sets(shape)
    for some in allowed_sets(other):
        if some not in allowed:
            return on_set(shape, some), 2, 1
    return None


def parted(shape, other):
    """Durations for which two shapes take unlike times, with both times, or None."""
    need_beside(shape, other)
    ones, others = allowed_sets(shape), allowed_sets(other)
    for some in unordered_sets(shape):
        if (some in ones) != (some in others):
            return on_set(shape, some), 1 if some in ones else 2, 1 if some in others else 2
    return None


def idle(shape):
    """What could be taken away, alone, so that all least times stay."""
    need_shape(shape)
    sets = unordered_sets(shape)
    whole = forbidden_with(sets, shape.machines, shape.crew, shape.asks)
    found = []
    for label, machines, crew, asks in lesser_parts(shape):
        if forbidden_with(sets, machines, crew, asks) == whole:
            found.append(label)
    return found


def enough(shape):
    """The least machines and workers with which alone the same sets of activities are allowed."""
    need_shape(shape)
    kept = []
    for machines, workers in same_forbidden(shape):
        parts = (set_mask(machines), set_mask(workers))
        if not any([is_part(one, parts[0]) and is_part(other, parts[1]) for _, (one, other) in kept]):
            kept.append(((machines, workers), parts))
    return [pair for pair, _ in kept]


def capacities(shape):
    """The least and the greatest capacity of each machine with which all least times stay."""
    need_shape(shape)
    sets = unordered_sets(shape)
    spans = []
    for at, (capacity, demands) in enumerate(shape.machines):
        others = forbidden_with(sets, without(shape.machines, at), shape.crew, shape.asks)
        loads = [load for load, over in zip(loads_of(sets, demands), others) if not over]
        beyond = [load for load in loads if load > capacity]
        spans.append((max([load for load in loads if load <= capacity]), min(beyond) - 1 if beyond else None))
    return spans
