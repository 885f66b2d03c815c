"""Plans of a project: when all ends, what is wrong, what it takes."""

from crewlags.accounts import ends_cost, modes_cost, stocks_over, uses_of
from crewlags.couples import couples
from crewlags.errors import NoNumber, NoPlan, NoStarts
from crewlags.kinds import is_index, is_natural
from crewlags.projects import chosen_modes, need_choice, need_project, shape_of
from crewlags.shapes import forbidden_cores
from crewlags.ties import PLACES, calendar_of, end_by, release_and_deadline, set_up


def need_starts(starts, many):
    """Raises NoStarts if it is no tuple of so many integers from 0 on."""
    if not isinstance(starts, tuple) or len(starts) != many:
        raise NoStarts(-1)
    for a, start in enumerate(starts):
        if not is_natural(start):
            raise NoStarts(a)


def need_plan(project, choice, starts):
    """Raises an error unless all of them are what they have to be."""
    need_project(project)
    need_choice(project, choice)
    need_starts(starts, len(project.names))


def need_ends(ends):
    """Raises NoPlan if some activity cannot start."""
    for a, end in enumerate(ends):
        if end is None:
            raise NoPlan(("rest", a))


def all_ends(project, choice, starts):
    """The end of each activity, None for one that cannot start then."""
    modes = chosen_modes(project, choice)
    return tuple([end_by(calendar_of(project, a), start, modes[a][0]) for a, start in enumerate(starts)])


def window_faults(project, starts, ends):
    """What starts or ends when it must not, sort by sort."""
    windows = [release_and_deadline(project, a) for a in range(len(starts))]
    faults = [("release", a) for a, (release, _) in enumerate(windows) if starts[a] < release]
    known = [a for a, end in enumerate(ends) if end is not None]
    faults.extend([("deadline", a) for a in known if windows[a][1] is not None and ends[a] > windows[a][1]])
    faults.extend([("horizon", a) for a in known if ends[a] > project.horizon])
    return faults


def lag_faults(project, spots):
    """The lags that are not kept."""
    faults = []
    for k, (one, a, other, b, low, high) in enumerate(project.lags):
        first, second = spots[a][PLACES[one]], spots[b][PLACES[other]]
        if first is None or second is None:
            continue
        if second - first < low:
            faults.append(("low", k))
        elif high is not None and second - first > high:
            faults.append(("high", k))
    return faults


def are_apart(project, spots, a, b):
    """Whether of two members of a single one starts at the other one's end plus the set-up, or behind it."""
    behind = spots[b][0] >= spots[a][1] + set_up(project, a, b)
    return behind or spots[a][0] >= spots[b][1] + set_up(project, b, a)


def single_faults(project, spots):
    """Each two members of a single that go on at a time, or too close to one another."""
    faults = []
    for k, (members, _) in enumerate(project.singles):
        known = [a for a in members if spots[a][1] is not None]
        faults.extend([("single", k, a, b) for a, b in couples(known) if not are_apart(project, spots, a, b)])
    return faults


def overlap(one, other):
    """Whether two spots overlap; one without an end overlaps nothing."""
    if one[1] is None or other[1] is None:
        return False
    return one[0] < other[1] and other[0] < one[1]


def together_faults(project, choice, spots):
    """The least forbidden sets whose members go on at the same time, each with a time."""
    faults = []
    for some in forbidden_cores(shape_of(project, choice)):
        if all([overlap(spots[a], spots[b]) for a, b in couples(some)]):
            faults.append(("together", some, max([spots[a][0] for a in some])))
    return faults


def all_faults(project, choice, starts):
    """All faults of a plan, in their order."""
    ends = all_ends(project, choice, starts)
    spots = list(zip(starts, ends))
    faults = [("rest", a) for a, end in enumerate(ends) if end is None]
    faults.extend(window_faults(project, starts, ends))
    faults.extend(lag_faults(project, spots))
    faults.extend(single_faults(project, spots))
    faults.extend([("stock", k) for k in stocks_over(project, uses_of(project, choice))])
    faults.extend(together_faults(project, choice, spots))
    return faults


def need_no_faults(project, choice, starts):
    """Raises NoPlan if the plan has faults."""
    faults = all_faults(project, choice, starts)
    if faults:
        raise NoPlan(faults[0])


def plan_ends(project, choice, starts):
    """The tuple of the ends, None for an activity that cannot start then."""
    need_plan(project, choice, starts)
    return all_ends(project, choice, starts)


def plan_faults(project, choice, starts):
    """The list of all faults of a plan."""
    need_plan(project, choice, starts)
    return all_faults(project, choice, starts)


def account(project, choice, starts):
    """The time, the cost, and what is used of each stock."""
    need_plan(project, choice, starts)
    ends = all_ends(project, choice, starts)
    need_ends(ends)
    time = max(ends)
    return time, modes_cost(project, choice) + ends_cost(project, ends, time), uses_of(project, choice)


def loads(project, choice, starts, machine):
    """The times at which the load of a machine changes, each with the load from then on."""
    need_plan(project, choice, starts)
    if not is_index(machine, len(project.machines)):
        raise NoNumber("machine")
    ends = all_ends(project, choice, starts)
    need_ends(ends)
    demands = [mode[1][machine] for mode in chosen_modes(project, choice)]
    found = []
    last = 0
    for time in sorted(set(starts + ends)):
        load = sum([demand for a, demand in enumerate(demands) if starts[a] <= time < ends[a]])
        if load != last:
            found.append((time, load))
            last = load
    return found
