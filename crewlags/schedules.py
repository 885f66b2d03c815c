"""Schedules: told by their starts, or the earliest ones along an order."""

from crewlags.amounts import numbers, number, shared_bottom, times_bottom
from crewlags.errors import NoSchedule
from crewlags.masks import PAIR_BITS, every_pair, is_part, mask_graph, within_mask
from crewlags.needs import need_durations, need_starts
from crewlags.orders import need_order
from crewlags.shapes import MOST_ACTIVITIES, forbidden_cores, need_shape


def whole_times(durations, starts):
    """The durations and the starts, both multiplied by a bottom that they share, and the bottom."""
    bottom = shared_bottom(durations + starts)
    return times_bottom(durations, bottom), times_bottom(starts, bottom), bottom


def all_ends(lengths, begins):
    """The list of the ends."""
    return [begin + length for begin, length in zip(begins, lengths)]


def overlap_mask(lengths, begins):
    """The bits of the pairs that overlap."""
    ends = all_ends(lengths, begins)
    mask = 0
    for one in range(len(begins)):
        for other in range(one):
            if begins[one] < ends[other] and begins[other] < ends[one]:
                mask |= PAIR_BITS[one][other]
    return mask


def all_faults(shape, lengths, begins):
    """All faults of a schedule, in their order."""
    ends = all_ends(lengths, begins)
    told = sorted(list({pair: True for pair in shape.before}))
    faults = [("before", a, b) for a, b in told if begins[b] < ends[a]]
    overlaps = overlap_mask(lengths, begins)
    return faults + [("together", some) for some in forbidden_cores(shape) if is_part(within_mask(some), overlaps)]


def earliest_begins(order, lengths):
    """The begins of the earliest schedule along an order."""
    begins = [0] * len(lengths)
    ahead = [[one for one, other in order if other == a] for a in range(len(lengths))]
    # what is ahead of something has less ahead of itself
    for at in sorted(range(len(lengths)), key=lambda place: len(ahead[place])):
        begins[at] = max([begins[one] + lengths[one] for one in ahead[at]], default=0)
    return begins


def places(shape):
    """The place of each activity in the row of a shape."""
    many = len(shape.names)
    row = []
    while len(row) < many:
        waiting = [b for a, b in shape.before if a not in row]
        row.append(min([a for a in range(many) if a not in row and a not in waiting]))
    return [row.index(a) for a in range(many)]


def overlapping(durations, starts):
    """The pairs of activities that overlap."""
    need_durations(durations, 1, MOST_ACTIVITIES)
    need_starts(starts, len(durations))
    lengths, begins, _ = whole_times(durations, starts)
    return mask_graph(overlap_mask(lengths, begins))


def length_of(durations, starts):
    """The greatest end."""
    need_durations(durations, 1, MOST_ACTIVITIES)
    need_starts(starts, len(durations))
    lengths, begins, bottom = whole_times(durations, starts)
    return number(max(all_ends(lengths, begins)), bottom)


def schedule_graph(durations, starts):
    """The graph of the pairs that do not overlap."""
    need_durations(durations, 1, MOST_ACTIVITIES)
    need_starts(starts, len(durations))
    lengths, begins, _ = whole_times(durations, starts)
    return mask_graph(every_pair(len(durations)) & ~overlap_mask(lengths, begins))


def schedule_faults(shape, durations, starts):
    """The list of all faults of a schedule."""
    need_shape(shape)
    need_durations(durations, len(shape.names), len(shape.names))
    need_starts(starts, len(shape.names))
    lengths, begins, _ = whole_times(durations, starts)
    return all_faults(shape, lengths, begins)


def earliest(shape, order, durations):
    """The starts of the earliest schedule along an order of the shape."""
    need_shape(shape)
    need_order(shape, order)
    need_durations(durations, len(shape.names), len(shape.names))
    bottom = shared_bottom(durations)
    return numbers(earliest_begins(order, times_bottom(durations, bottom)), bottom)


def schedule_order(shape, durations, starts):
    """The order of a schedule that keeps the shape."""
    need_shape(shape)
    many = len(shape.names)
    need_durations(durations, many, many)
    need_starts(starts, many)
    lengths, begins, _ = whole_times(durations, starts)
    faults = all_faults(shape, lengths, begins)
    if faults:
        raise NoSchedule(faults[0])
    ends = all_ends(lengths, begins)
    place = places(shape)
    order = []
    for a in range(many):
        for b in range(many):
            # two of duration 0 at one time could each come first
            either = ends[b] <= begins[a] and place[b] < place[a]
            if a != b and ends[a] <= begins[b] and not either:
                order.append((a, b))
    return order
