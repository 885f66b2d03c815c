"""Shapes, and which of their activities can go on at the same time."""

from crewlags.ahead import after_pairs, all_after
from crewlags.errors import NoSet, NoShape
from crewlags.kinds import is_set
from crewlags.limits import all_limits, first_over, tight
from crewlags.masks import all_sets, graph_mask, is_part, set_mask, within_mask
from crewlags.parts import asks_fault, before_fault, crew_fault, machines_fault, names_fault

MOST_ACTIVITIES = 7


class Shape:
    """Activities, what goes ahead of what, machines, a crew, and what is asked of it."""

    def __init__(self, names, *, before=(), machines=(), crew=(), asks=()):
        refuse("names", names_fault(names, MOST_ACTIVITIES))
        many = len(names)
        refuse("before", before_fault(before, many))
        refuse("machines", machines_fault(machines, many))
        refuse("crew", crew_fault(crew))
        refuse("asks", asks_fault(asks, crew, many))
        self.names = tuple(names)
        self.before = tuple(before)
        self.machines = tuple(machines)
        self.crew = tuple(crew)
        self.asks = tuple(asks)

    def __eq__(self, other):
        return (
            isinstance(other, Shape)
            and self.names == other.names
            and self.before == other.before
            and self.machines == other.machines
            and self.crew == other.crew
            and self.asks == other.asks
        )


def refuse(part, at):
    """Raises NoShape if something is wrong with a part."""
    if at is not None:
        raise NoShape(part, at)


def need_shape(shape):
    """Raises NoShape if it is no Shape."""
    if not isinstance(shape, Shape):
        raise NoShape("shape", -1)


def limits_of(shape):
    """The limits of the machines and of the crew of a shape."""
    return all_limits(shape.machines, shape.crew, shape.asks)


def after_of(shape):
    """What is behind each activity of a shape."""
    return all_after(len(shape.names), shape.before)


def ordered_pairs(shape):
    """The ascending list of the pairs (a, b) of which a goes ahead of b."""
    return after_pairs(after_of(shape))


def unordered_sets(shape):
    """The sets of one or more activities of which no two are ordered."""
    ordered = graph_mask(ordered_pairs(shape))
    return [some for some in all_sets(len(shape.names)) if not within_mask(some) & ordered]


def without_larger(sets):
    """Those of some sets, the fewest members first, of which no other one is a part."""
    kept = []
    for some in sets:
        mask = set_mask(some)
        if not any([is_part(other, mask) for _, other in kept]):
            kept.append((some, mask))
    return [some for some, _ in kept]


def without_smaller(sets):
    """Those of some different sets that are part of no other one."""
    masks = [set_mask(some) for some in sets]
    kept = []
    for some in sets:
        mask = set_mask(some)
        if not any([is_part(mask, other) for other in masks if other != mask]):
            kept.append(some)
    return kept


def over_limits(shape, sets):
    """Those of some sets that are forbidden."""
    limits = tight(limits_of(shape))
    return [some for some in sets if first_over(limits, some) is not None]


def forbidden_cores(shape):
    """The forbidden sets of which no smaller part is forbidden, ordered or not."""
    return without_larger(over_limits(shape, all_sets(len(shape.names))))


def excess(shape, some):
    """What a set of activities goes beyond: a machine, or a set of skills; None if it is not forbidden."""
    need_shape(shape)
    if not is_set(some, len(shape.names)):
        raise NoSet(some)
    return first_over(limits_of(shape), some)


def allowed_sets(shape):
    """The sets of activities that can go on at the same time."""
    need_shape(shape)
    limits = tight(limits_of(shape))
    return [some for some in unordered_sets(shape) if first_over(limits, some) is None]


def greatest_allowed(shape):
    """The allowed sets that are part of no other one."""
    need_shape(shape)
    return without_smaller(allowed_sets(shape))


def least_forbidden(shape):
    """The forbidden sets of which no two are ordered and no smaller part is forbidden."""
    need_shape(shape)
    return without_larger(over_limits(shape, unordered_sets(shape)))
