"""Ends that no plan of a project can be ahead of, as only so much can be done at a time.

What a machine, or workers with some skills, must do takes at least as long as all of it
divided by what can be done at a time; and the members of a single go on one by one.
"""

from crewlags.couples import both_ways
from crewlags.limits import crew_limits, tight
from crewlags.projects import chosen_modes
from crewlags.ties import set_up


def least_length(row):
    """The least time that an activity goes on, for all of some spots."""
    return min([end - start for start, end in row])


def from_to(capacity, demands, starts, lengths):
    """The least start of what is demanded, and when all of it can have been done at the earliest; or None.

    It is told by the least starts and the least lengths.
    """
    rows = [(start, demand * length) for start, demand, length in zip(starts, demands, lengths) if demand * length]
    if not rows:
        return None
    first = min([start for start, _ in rows])
    return first, first + (sum([work for _, work in rows]) + capacity - 1) // capacity


def demands_on(project, choice):
    """The demands of the chosen modes on each machine."""
    modes = chosen_modes(project, choice)
    return [[demands[at] for _, demands, _, _ in modes] for at in range(len(project.machines))]


class LeastEnds:
    """What limits the ends of all plans of a project; the lengths of modes are kept.

    limits are those of the crew; singles have the members and the least set-up between them.
    """

    def __init__(self, project):
        self.project = project
        self.limits = [limit[1:] for limit in tight(crew_limits(project.crew, project.asks))]
        self.singles = []
        for some, _ in project.singles:
            self.singles.append((some, min([set_up(project, a, b) for a, b in both_ways(some)])))
        self.known = {}

    def lengths(self, board):
        """The least length of each activity on a board."""
        for a, mode in enumerate(board.choice):
            if (a, mode) not in self.known:
                self.known[a, mode] = least_length(board.spots[a])
        return [self.known[a, mode] for a, mode in enumerate(board.choice)]

    def told(self, board):
        """An end that no plan on a board is ahead of; there have to be some spots of each activity."""
        starts = [row[0][0] for row in board.spots]
        lengths = self.lengths(board)
        ends = [0]
        for some, gap in self.singles:
            going = sum([lengths[a] for a in some])
            ends.append(min([starts[a] for a in some]) + going + gap * (len(some) - 1))
        limits = list(zip(self.project.machines, demands_on(self.project, board.choice)))
        for capacity, demands in limits + self.limits:
            span = from_to(capacity, demands, starts, lengths)
            ends.append(0 if span is None else span[1])
        return max(ends)
