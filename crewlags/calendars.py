"""Calendars: which slots of time work.

Slots may be very great, so nothing steps from slot to slot: working slots are
counted by the whole turns of the cycle, and the changes, of which there are few.
"""

from math import lcm

from crewlags.errors import NoCalendar
from crewlags.kinds import is_row, is_whole
from crewlags.needs import need_number

LONGEST_CYCLE = 14
MOST_CHANGES = 10


class Calendar:
    """A cycle of slots that work or not, and single slots that are told otherwise."""

    def __init__(self, cycle, *, changes=()):
        at = cycle_fault(cycle)
        if at is not None:
            raise NoCalendar("cycle", at)
        at = changes_fault(changes)
        if at is not None:
            raise NoCalendar("changes", at)
        self.cycle = tuple(cycle)
        self.changes = tuple(changes)

    def __eq__(self, other):
        return isinstance(other, Calendar) and self.cycle == other.cycle and self.changes == other.changes


def cycle_fault(cycle):
    """What is wrong with a cycle: -1, the index of the first item that is none, or None."""
    if not is_row(cycle) or not 1 <= len(cycle) <= LONGEST_CYCLE:
        return -1
    for at, works in enumerate(cycle):
        if not isinstance(works, bool):
            return at
    return None if any([works for works in cycle]) else -1


def is_change(value, last):
    """Whether a value is a tuple of a slot that is greater than the last one, and a bool."""
    if not isinstance(value, tuple) or len(value) != 2:
        return False
    return is_whole(value[0]) and value[0] > last and isinstance(value[1], bool)


def changes_fault(changes):
    """What is wrong with changes: -1, the index of the first item that is none, or None."""
    if not is_row(changes) or len(changes) > MOST_CHANGES:
        return -1
    last = -1
    for at, change in enumerate(changes):
        if not is_change(change, last):
            return at
        last = change[0]
    return None


def need_calendar(calendar, part):
    """Raises NoCalendar if it is no Calendar."""
    if not isinstance(calendar, Calendar):
        raise NoCalendar(part, -1)


def working_places(cycle):
    """The ascending list of the places of a cycle that work."""
    return [place for place, works in enumerate(cycle) if works]


def by_cycle(cycle, slot):
    """Whether a slot works by the cycle alone."""
    return cycle[slot % len(cycle)]


def cycle_ahead(cycle, slot):
    """How many slots ahead of one work by the cycle alone."""
    places = working_places(cycle)
    rest = slot % len(cycle)
    return slot // len(cycle) * len(places) + len([place for place in places if place < rest])


def cycle_slot(cycle, ahead):
    """The slot that works by the cycle alone, with so many such slots ahead of it."""
    places = working_places(cycle)
    return ahead // len(places) * len(cycle) + places[ahead % len(places)]


def gain(cycle, slot, works):
    """By how many more slots work if this one is told to work or not."""
    return (1 if works else 0) - (1 if by_cycle(cycle, slot) else 0)


def works_at(calendar, slot):
    """Whether a slot works."""
    for changed, works in calendar.changes:
        if changed == slot:
            return works
    return by_cycle(calendar.cycle, slot)


def works_ahead(calendar, slot):
    """How many slots ahead of one work."""
    cycle = calendar.cycle
    gains = [gain(cycle, changed, works) for changed, works in calendar.changes if changed < slot]
    return cycle_ahead(cycle, slot) + sum(gains)


def slot_behind(calendar, ahead):
    """The slot that works with so many working slots ahead of it."""
    cycle = calendar.cycle
    gained = 0
    for changed, works in calendar.changes:
        so_far = cycle_ahead(cycle, changed) + gained
        if so_far > ahead:
            break
        if so_far == ahead and works:
            return changed
        gained += gain(cycle, changed, works)
    return cycle_slot(cycle, ahead - gained)


def end_in(calendar, start, work):
    """The end of a work that starts at a slot, None if it cannot."""
    if work == 0:
        return start
    if not works_at(calendar, start):
        return None
    return slot_behind(calendar, works_ahead(calendar, start) + work - 1) + 1


def least_period(cycle):
    """After how many slots a cycle begins to be the same again."""
    many = len(cycle)
    return min([part for part in range(1, many + 1) if cycle == cycle[:part] * (many // part)])


def is_work(calendar, slot):
    """Whether a slot works."""
    need_calendar(calendar, "calendar")
    need_number(slot, "slot")
    return works_at(calendar, slot)


def next_work(calendar, slot):
    """The least slot from this one on that works."""
    need_calendar(calendar, "calendar")
    need_number(slot, "slot")
    return slot_behind(calendar, works_ahead(calendar, slot))


def work_between(calendar, start, end):
    """How many of the slots from start on that are less than end work."""
    need_calendar(calendar, "calendar")
    need_number(start, "start")
    need_number(end, "end")
    return works_ahead(calendar, end) - works_ahead(calendar, start) if start < end else 0


def end_of(calendar, start, work):
    """The end of a work that starts at a slot, None if it cannot."""
    need_calendar(calendar, "calendar")
    need_number(start, "start")
    need_number(work, "work")
    return end_in(calendar, start, work)


def latest_start(calendar, end, work):
    """The greatest start with which a work has ended at end, None if there is none."""
    need_calendar(calendar, "calendar")
    need_number(end, "end")
    need_number(work, "work")
    if work == 0:
        return end
    ahead = works_ahead(calendar, end) - work
    return None if ahead < 0 else slot_behind(calendar, ahead)


def first_difference(calendar, other):
    """The least slot that works in just one of two calendars, or None.

    Behind a change, and up to the next one, the two are as their cycles are, and
    these come round together: if they differ there, they do so in the first round.
    """
    need_calendar(calendar, "calendar")
    need_calendar(other, "other")
    turn = lcm(len(calendar.cycle), len(other.cycle))
    told = sorted([slot for slot, _ in calendar.changes + other.changes])
    for start in [0] + told:
        for slot in range(start, start + turn + 1):
            if works_at(calendar, slot) != works_at(other, slot):
                return slot
    return None


def turn_of(calendar):
    """The least slot from which on a calendar repeats itself, and its least period."""
    need_calendar(calendar, "calendar")
    # the last slot that is told otherwise than by the cycle differs from the one a period later
    otherwise = [slot for slot, works in calendar.changes if gain(calendar.cycle, slot, works) != 0]
    return max([slot + 1 for slot in otherwise], default=0), least_period(calendar.cycle)


def moved(calendar, many):
    """A Calendar of which each slot works as the one that is so many later does in this one."""
    need_calendar(calendar, "calendar")
    need_number(many, "many")
    cycle = [by_cycle(calendar.cycle, place + many) for place in range(len(calendar.cycle))]
    return Calendar(cycle, changes=[(slot - many, works) for slot, works in calendar.changes if slot >= many])
