"""Moments: what is known of a project at a part of a paper.

At a moment modes are chosen for some activities, None stands for the others, and there
is a tuple of pairs ahead. What is asked again and again for the same choice is kept.
"""

from crewlags.grounds import single_pairs
from crewlags.least_ends import demands_on, least_length
from crewlags.limits import all_limits, first_over
from crewlags.projects import shape_of
from crewlags.ties import all_ties, spots_of


class Reading:
    """A project and a time at which all has to have ended."""

    def __init__(self, project, most):
        self.project = project
        self.most = most
        self.singles = single_pairs(project)
        self.known_spots = {}
        self.known_limits = {}
        self.known_work = {}

    def spot_rows(self, choice):
        """The spots of each activity."""
        if choice not in self.known_spots:
            rows = [spots_of(self.project, choice, a, self.most) for a in range(len(choice))]
            self.known_spots[choice] = rows
        return self.known_spots[choice]

    def machine_work(self, choice):
        """The demands on each machine, and the least length of each activity; there have to be spots of each."""
        if choice not in self.known_work:
            lengths = [least_length(row) for row in self.spot_rows(choice)]
            self.known_work[choice] = (demands_on(self.project, choice), lengths)
        return self.known_work[choice]

    def ties(self, ahead):
        """The ties of the lags and of the pairs ahead."""
        return all_ties(self.project, ahead)

    def is_forbidden(self, choice, some):
        """Whether a set must not go on at the same time."""
        if choice not in self.known_limits:
            shape = shape_of(self.project, choice)
            self.known_limits[choice] = all_limits(shape.machines, shape.crew, shape.asks)
        return first_over(self.known_limits[choice], some) is not None

    def is_apart(self, choice, some):
        """Whether of a set of two or more one member has to come behind another one."""
        return some in self.singles or self.is_forbidden(choice, some)


def no_modes(project):
    """The modes that are chosen at first: none."""
    return (None,) * len(project.names)


def with_mode(chosen, a, mode):
    """The chosen modes with one more."""
    return chosen[:a] + (mode,) + chosen[a + 1:]


def least_use(project, chosen, k):
    """What is used of a stock at least, beside the chosen modes."""
    total = 0
    for modes, mode in zip(project.modes, chosen):
        total += min([uses[k] for _, _, uses, _ in modes]) if mode is None else modes[mode][2][k]
    return total


def first_stock_over(project, chosen):
    """The first stock of which more is used than there is, whatever modes are chosen yet; or None."""
    for k, stock in enumerate(project.stocks):
        if least_use(project, chosen, k) > stock:
            return k
    return None
