"""Where the activities of a project can stand, and what ties two of them to one another.

A SPOT of an activity is a possible start with its end. What has to come no earlier
than something else is a TIE: it lifts the one activity as the other one is lifted.
A lag with a high is two ties, one for each direction. As spots that come later end
later, the least spots that keep all ties are found by lifting alone.
"""

from crewlags.calendars import end_in
from crewlags.projects import chosen_modes

PLACES = {"start": 0, "end": 1}


class Tie:
    """A place of one activity comes at least a gap later than a place of another one.

    by is what the other one is called that lifts, to what is lifted; the places are
    0 for the start and 1 for the end. reason is that of a step that follows from it.
    """

    def __init__(self, reason, by, by_place, to, to_place, gap):
        self.reason = reason
        self.by = by
        self.by_place = by_place
        self.to = to
        self.to_place = to_place
        self.gap = gap

    def fits(self, by_spot, to_spot):
        """Whether two spots keep it."""
        return to_spot[self.to_place] >= by_spot[self.by_place] + self.gap


def end_by(calendar, start, work):
    """The end of a work, every slot working if there is no calendar; None if it cannot start."""
    return start + work if calendar is None else end_in(calendar, start, work)


def calendar_of(project, a):
    """The calendar of an activity, or None."""
    return project.calendars[a] if project.calendars else None


def release_and_deadline(project, a):
    """The release and the deadline of an activity."""
    return project.windows[a] if project.windows else (0, None)


def window_of(project, a, most):
    """The release of an activity, and the last time at which it may end."""
    release, deadline = release_and_deadline(project, a)
    lasts = [last for last in (deadline, project.horizon, most) if last is not None]
    return release, min(lasts)


def keeps_own(lags, a, spot):
    """Whether a spot keeps all lags from its activity to itself."""
    for one, first, other, second, low, high in lags:
        if first == a and second == a:
            later = spot[PLACES[other]] - spot[PLACES[one]]
            if later < low or (high is not None and later > high):
                return False
    return True


def work_spots(project, a, work, most):
    """The spots of an activity that is of some work, ascending."""
    calendar = calendar_of(project, a)
    release, last = window_of(project, a, most)
    spots = []
    for start in range(release, last + 1):
        end = end_by(calendar, start, work)
        if end is not None and end <= last and keeps_own(project.lags, a, (start, end)):
            spots.append((start, end))
    return spots


def spots_of(project, choice, a, most):
    """The spots of an activity, ascending."""
    return work_spots(project, a, chosen_modes(project, choice)[a][0], most)


def all_spots(project, choice, most):
    """The spots of each activity."""
    return [spots_of(project, choice, a, most) for a in range(len(project.names))]


def set_up(project, one, other):
    """The set-up between two activities in the table of the single that has both, 0 if none has."""
    families = project.families if project.families else (0,) * len(project.names)
    for members, table in project.singles:
        if one in members and other in members:
            return table[families[one]][families[other]]
    return 0


def lag_ties(project):
    """The ties of the lags between two activities."""
    ties = []
    for k, (one, a, other, b, low, high) in enumerate(project.lags):
        if a != b:
            ties.append(Tie(("lag", k), a, PLACES[one], b, PLACES[other], low))
            if high is not None:
                ties.append(Tie(("lag", k), b, PLACES[other], a, PLACES[one], -high))
    return ties


def ahead_tie(project, reason, a, b):
    """The tie of a pair ahead."""
    return Tie(reason, a, PLACES["end"], b, PLACES["start"], set_up(project, a, b))


def ahead_ties(project, ahead):
    """The ties of the pairs ahead."""
    return [ahead_tie(project, ("ahead", k), a, b) for k, (a, b) in enumerate(ahead)]


def all_ties(project, ahead):
    """The ties of the lags, then those of the pairs ahead."""
    return lag_ties(project) + ahead_ties(project, ahead)


def lifted_place(tie, spots, places):
    """The index of the first spot, from that of its place on, of what a tie lifts that keeps the tie."""
    by_spot = spots[tie.by][places[tie.by]]
    at = places[tie.to]
    while at < len(spots[tie.to]) and not tie.fits(by_spot, spots[tie.to][at]):
        at += 1
    return at


def lift(spots, ties):
    """The indexes of the least spots that keep all ties, None if there are none, and the steps to them.

    The last step leaves nothing to its activity if there are none.
    """
    places = [0] * len(spots)
    steps = []
    if not all([len(row) > 0 for row in spots]):
        return None, steps
    waiting = True
    while waiting:
        waiting = False
        for tie in ties:
            at = lifted_place(tie, spots, places)
            if at == places[tie.to]:
                continue
            row = spots[tie.to]
            if at == len(row):
                steps.append((tie.to, row[-1][0] + 1, tie.reason))
                return None, steps
            steps.append((tie.to, row[at][0], tie.reason))
            places[tie.to] = at
            waiting = True
    return places, steps


def lower(spots, ties):
    """The indexes of the greatest spots that keep all ties; there have to be some that do."""
    places = [len(row) - 1 for row in spots]
    waiting = True
    while waiting:
        waiting = False
        for tie in ties:
            while not tie.fits(spots[tie.by][places[tie.by]], spots[tie.to][places[tie.to]]):
                places[tie.by] -= 1
                waiting = True
    return places
