"""Rotas: who of the crew serves what, and when."""

from crewlags.errors import NoRota
from crewlags.kinds import is_index, is_natural
from crewlags.plans import all_ends, need_no_faults, need_plan


def asks_of(project, a):
    """What an activity asks for."""
    return project.asks[a] if project.asks else ()


def wanted_at(project, starts, ends, time):
    """Each worker that is asked for at a time, as (activity, skill)."""
    going = [a for a in range(len(starts)) if starts[a] <= time < ends[a]]
    return [(a, skill) for a in going for skill, many in asks_of(project, a) for _ in range(many)]


def seated(crew, wanted, seats, at, tried):
    """Whether what is wanted at an index gets a worker, others being moved to other workers if need be.

    seats tells for each worker that has something to serve the index of it.
    """
    for worker, skills in enumerate(crew):
        if wanted[at][1] in skills and worker not in tried:
            tried[worker] = True
            if worker not in seats or seated(crew, wanted, seats, seats[worker], tried):
                seats[worker] = at
                return True
    return False


def seats_for(crew, wanted):
    """For each worker that is needed the index of what the worker serves."""
    seats = {}
    for at in range(len(wanted)):
        seated(crew, wanted, seats, at, {})
    return seats


def is_shift(value, project, starts, ends):
    """Whether a value is a shift in which a worker serves what goes on, in a skill that is asked for."""
    if not isinstance(value, tuple) or len(value) != 5:
        return False
    start, end, worker, a, skill = value
    if not is_natural(start) or not is_natural(end) or start >= end:
        return False
    if not is_index(worker, len(project.crew)) or not is_index(a, len(starts)):
        return False
    if start < starts[a] or end > ends[a]:
        return False
    return skill in project.crew[worker] and skill in [told for told, _ in asks_of(project, a)]


def clashes(shifts, at):
    """Whether the worker of a shift has one ahead of it in the list at a time at which it runs."""
    start, end, worker, _, _ = shifts[at]
    return any([shift[2] == worker and shift[0] < end and start < shift[1] for shift in shifts[:at]])


def serving(shifts, a, skill, time):
    """How many workers serve an activity in a skill at a time."""
    return len([1 for start, end, _, one, told in shifts if one == a and told == skill and start <= time < end])


def lacks(project, shifts, a, start, end):
    """Whether an activity is served by fewer workers than it asks for at some time while it goes on.

    There are fewer workers than just before only where a shift ends.
    """
    times = [start] + [shift[1] for shift in shifts if shift[3] == a]
    for skill, many in asks_of(project, a):
        if any([start <= time < end and serving(shifts, a, skill, time) < many for time in times]):
            return True
    return False


def rota_fault(project, starts, ends, shifts):
    """What is wrong with shifts: a part and an index, or None."""
    if not isinstance(shifts, list):
        return "rota", -1
    for at, shift in enumerate(shifts):
        if not is_shift(shift, project, starts, ends) or clashes(shifts, at):
            return "rota", at
    for a, start in enumerate(starts):
        if lacks(project, shifts, a, start, ends[a]):
            return "lack", a
    return None


def rota(project, choice, starts):
    """Shifts that serve all activities of a plan that keeps the project."""
    need_plan(project, choice, starts)
    need_no_faults(project, choice, starts)
    ends = all_ends(project, choice, starts)
    times = sorted(set(starts + ends))
    shifts = []
    for time, later in zip(times, times[1:]):
        wanted = wanted_at(project, starts, ends, time)
        for worker, at in seats_for(project.crew, wanted).items():
            shifts.append((time, later, worker, wanted[at][0], wanted[at][1]))
    return shifts


def check_rota(project, choice, starts, shifts):
    """Raises NoRota unless the shifts are a rota of a plan that keeps the project."""
    need_plan(project, choice, starts)
    need_no_faults(project, choice, starts)
    fault = rota_fault(project, starts, all_ends(project, choice, starts), shifts)
    if fault is not None:
        raise NoRota(fault[0], fault[1])
