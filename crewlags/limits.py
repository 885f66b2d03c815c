"""What limits which activities can go on at the same time.

A set of skills limits them as a machine does: its capacity is the number of
the workers with one of the skills, its demands are the workers asked for them.
"""

from itertools import combinations


def skills_of(rows):
    """The ascending list of the different skills in rows of skills."""
    return sorted(list({skill: True for row in rows for skill in row}))


def asked_skills(asks):
    """The ascending list of the different skills that are asked for."""
    return skills_of([[skill for skill, _ in ask] for ask in asks])


def asked_of(ask, skills):
    """How many workers an activity asks for in one of the skills."""
    return sum([many for skill, many in ask if skill in skills])


def able(crew, skills):
    """How many workers have one of the skills."""
    return sum([1 for worker in crew if any([skill in skills for skill in worker])])


def crew_limits(crew, asks):
    """A limit (label, capacity, demands) for each set of skills, the fewest skills first."""
    told = asked_skills(asks)
    limits = []
    for size in range(1, len(told) + 1):
        for skills in combinations(told, size):
            demands = [asked_of(ask, skills) for ask in asks]
            limits.append((("crew", skills), able(crew, skills), demands))
    return limits


def all_limits(machines, crew, asks):
    """The limits of the machines, in their order, then those of the crew."""
    limits = [(("machine", at), capacity, demands) for at, (capacity, demands) in enumerate(machines)]
    return limits + crew_limits(crew, asks)


def first_over(limits, some):
    """The label of the first limit that a set goes beyond, or None."""
    for label, capacity, demands in limits:
        if sum([demands[a] for a in some]) > capacity:
            return label
    return None


def tight(limits):
    """The limits that some set goes beyond."""
    return [limit for limit in limits if sum(limit[2]) > limit[1]]
