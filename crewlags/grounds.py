"""Grounds: what the boards of one project share.

A BLOCK is a set of activities of which not each two may be close to one another: in
any plan that keeps the project one member of each block comes behind another one.
"""

from crewlags.couples import both_ways, couples
from crewlags.families import families_with, family_over, joined, least_of
from crewlags.limits import crew_limits
from crewlags.masks import members
from crewlags.projects import chosen_modes
from crewlags.ties import ahead_tie, lag_ties


def single_pairs(project):
    """The sets of two activities of which only one may go on at a time."""
    return [pair for members_of, _ in project.singles for pair in couples(members_of)]


def table_of(tie, spots):
    """For each place of what pulls the least place of what is pulled; their number if there is none."""
    table = []
    at = 0
    pulled = [spot[tie.to_place] for spot in spots[tie.to]]
    for spot in spots[tie.by]:
        least = spot[tie.by_place] + tie.gap
        while at < len(pulled) and pulled[at] < least:
            at += 1
        table.append(at)
    return table


class Tables:
    """The tables of ties, each reckoned once for the chosen modes of its two activities.

    Boards share them whose spots are the same wherever the modes are.
    """

    def __init__(self):
        self.known = {}

    def told(self, tie, choice, spots):
        """The table of a tie."""
        place = (tie.by, tie.by_place, tie.to, tie.to_place, tie.gap, choice[tie.by], choice[tie.to])
        if place not in self.known:
            self.known[place] = table_of(tie, spots)
        return self.known[place]


class Ground:
    """A project, its ties, and the sets that may not go on at a time whatever the modes are, as a family.

    lags are the ties of the lags; pair_ties has that of each pair, if it is ahead.
    """

    def __init__(self, project):
        many = len(project.names)
        self.project = project
        self.lags = lag_ties(project)
        self.pair_ties = {(a, b): ahead_tie(project, (), a, b) for a, b in both_ways(list(range(many)))}
        self.having = families_with(many)
        crew = [family_over(demands, capacity) for _, capacity, demands in crew_limits(project.crew, project.asks)]
        pairs = [self.having[a] & self.having[b] for a, b in single_pairs(project)]
        self.always = joined(crew) | joined(pairs)
        self.known = {}

    def find_blocks(self, choice):
        """The blocks of a choice, those with the fewest members first, without those with another one as a part."""
        family = self.always
        modes = chosen_modes(self.project, choice)
        for at, capacity in enumerate(self.project.machines):
            family |= family_over([demands[at] for _, demands, _, _ in modes], capacity)
        if family not in self.known:
            sets = [tuple(members(mask)) for mask in members(least_of(family, self.having))]
            self.known[family] = sorted(sets, key=lambda some: (len(some), some))
        return self.known[family]
