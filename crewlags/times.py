"""The times of a project with chosen modes: possible starts, least and greatest ones, and why there are none."""

from crewlags.errors import NoAhead, NoDerivation
from crewlags.kinds import is_index, is_natural, is_whole, pairs_fault
from crewlags.needs import need_activity, need_limit
from crewlags.projects import need_choice, need_project
from crewlags.ties import all_spots, all_ties, lift, lower, spots_of

MOST_AHEAD = 20
WORDS = ("lag", "ahead")


def need_ahead(project, ahead):
    """Raises NoAhead if it is no list or tuple of at most so many pairs of activities."""
    at = pairs_fault(ahead, len(project.names))
    if at == -1 or len(ahead) > MOST_AHEAD:
        raise NoAhead(-1)
    if at is not None:
        raise NoAhead(at)


def need_moment(project, choice, ahead, most):
    """Raises an error unless all of them are what they have to be."""
    need_project(project)
    need_choice(project, choice)
    need_ahead(project, ahead)
    need_limit(most, "most")


def is_window_reason(value):
    """Whether a value is the reason that any possible start fits."""
    return len(value) == 1 and isinstance(value[0], str) and value[0] == "window"


def is_tie_reason(value):
    """Whether a value is the reason of a lag or pair with some index."""
    if len(value) != 2 or not isinstance(value[0], str) or not is_whole(value[1]):
        return False
    return value[0] in WORDS


def tie_of(step, ties):
    """The tie that a step is told to follow from, or None."""
    a, _, reason = step
    for tie in ties:
        if tie.reason == reason and tie.to == a:
            return tie
    return None


def is_step(value, ties, many):
    """Whether a value is a step about one of so many activities."""
    if not isinstance(value, tuple) or len(value) != 3:
        return False
    a, time, reason = value
    if not is_index(a, many) or not is_natural(time) or not isinstance(reason, tuple):
        return False
    return is_window_reason(reason) or (is_tie_reason(reason) and tie_of(value, ties) is not None)


def left_to(spots, bounds, a):
    """The spots of an activity that do not start ahead of its bound."""
    return [spot for spot in spots[a] if spot[0] >= bounds[a]]


def stands(step, spots, bounds, ties):
    """Whether a step stands beside what is left."""
    a, time, reason = step
    early = [spot for spot in left_to(spots, bounds, a) if spot[0] < time]
    if len(reason) == 1:
        return not early
    tie = tie_of(step, ties)
    others = left_to(spots, bounds, tie.by)
    return not others or not any([tie.fits(others[0], spot) for spot in early])


def steps_fault(steps, spots, ties):
    """What is wrong with steps that shall show that no starts keep the times: a part and an index, or None."""
    if not isinstance(steps, list):
        return "steps", -1
    bounds = [0] * len(spots)
    for at, step in enumerate(steps):
        if not is_step(step, ties, len(spots)) or not stands(step, spots, bounds, ties):
            return "steps", at
        bounds[step[0]] = max(bounds[step[0]], step[1])
    if all([left_to(spots, bounds, a) for a in range(len(spots))]):
        return "open", -1
    return None


def places_between(spots, ties):
    """The indexes of the least and those of the greatest spots that keep all ties, or None."""
    least, _ = lift(spots, ties)
    return None if least is None else (least, lower(spots, ties))


def possible_starts(project, choice, a, *, most=None):
    """The ascending list of the possible starts of an activity."""
    need_project(project)
    need_choice(project, choice)
    need_activity(a, len(project.names))
    need_limit(most, "most")
    return [start for start, _ in spots_of(project, choice, a, most)]


def times(project, choice, *, ahead=(), most=None):
    """The least and the greatest starts that keep the times, or None."""
    need_moment(project, choice, ahead, most)
    spots = all_spots(project, choice, most)
    rows = places_between(spots, all_ties(project, ahead))
    if rows is None:
        return None
    return tuple([tuple([spots[a][at][0] for a, at in enumerate(row)]) for row in rows])


def derivation(project, choice, *, ahead=(), most=None):
    """Steps that show that no starts keep the times, or None if some do."""
    need_moment(project, choice, ahead, most)
    places, steps = lift(all_spots(project, choice, most), all_ties(project, ahead))
    return steps if places is None else None


def check_derivation(project, choice, steps, *, ahead=(), most=None):
    """Raises NoDerivation unless the steps show that no starts keep the times."""
    need_moment(project, choice, ahead, most)
    fault = steps_fault(steps, all_spots(project, choice, most), all_ties(project, ahead))
    if fault is not None:
        raise NoDerivation(fault[0], fault[1])
