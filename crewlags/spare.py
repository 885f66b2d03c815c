"""What of a shape could be taken away, so that the same sets of activities stay forbidden.

A machine forbids a family of sets, and so does each set of skills: the more, the fewer
workers have one of them. So a machine or an ask less forbids no more, and a worker or a
skill less no less than before: of these it is enough to know the fewest workers that
each set of skills needs.
"""

from crewlags.families import families_from, families_with, family_over, joined, least_of
from crewlags.limits import crew_limits
from crewlags.masks import all_sets, bit_count, is_part, members, set_mask
from crewlags.shapes import ordered_pairs

# more than a crew of 8 workers, and what one ask of 8 may add to it
MOST_ASKED = 17


class SkillRow:
    """A set of skills: which workers have one of them, and what is forbidden with fewer of these.

    asked has for each number the sets of activities that ask for at least so many.
    """

    def __init__(self, skills, having, asked):
        self.skills = skills
        self.having = having
        self.many = bit_count(having)
        self.asked = asked


def beyond(row, many):
    """The sets that ask for more than so many workers with a set of skills."""
    return row.asked[many + 1] if many + 1 < len(row.asked) else 0


def skill_masks(crew):
    """For each skill the bits of the workers that have it."""
    masks = {}
    for at, worker in enumerate(crew):
        for skill in worker:
            masks[skill] = masks.get(skill, 0) | 1 << at
    return masks


def skill_rows(shape, having, free):
    """The sets of skills that are asked for, with what they forbid of a family."""
    masks = skill_masks(shape.crew)
    rows = []
    for (_, skills), _, demands in crew_limits(shape.crew, shape.asks):
        workers = joined([masks.get(skill, 0) for skill in skills])
        asked = families_from(having, demands, min(sum(demands), MOST_ASKED))
        rows.append(SkillRow(skills, workers, [family & free for family in asked]))
    return rows


class Limits:
    """What the machines and the sets of skills of a shape forbid, and all of them together."""

    def __init__(self, shape):
        self.having = families_with(len(shape.names))
        free = ~joined([self.having[a] & self.having[b] for a, b in ordered_pairs(shape)])
        self.machines = [family_over(demands, capacity) & free for capacity, demands in shape.machines]
        self.rows = skill_rows(shape, self.having, free)
        self.whole = joined(self.machines) | joined([beyond(row, row.many) for row in self.rows])


def fewest_workers(limits):
    """For each set of skills the least number of workers with which it forbids nothing new."""
    fewest = []
    for row in limits.rows:
        many = row.many
        while many > 0 and is_part(beyond(row, many - 1), limits.whole):
            many -= 1
        fewest.append(many)
    return fewest


def spare_machines(limits):
    """The machines that forbid nothing that the others and the crew do not."""
    crew = joined([beyond(row, row.many) for row in limits.rows])
    found = []
    for at in range(len(limits.machines)):
        others = limits.machines[:at] + limits.machines[at + 1:]
        if joined(others) | crew == limits.whole:
            found.append(("machine", at))
    return found


def spare_workers(limits, many):
    """The workers without whom nothing new is forbidden."""
    short = [row.having for row, fewest in zip(limits.rows, fewest_workers(limits)) if row.many == fewest]
    return [("worker", at) for at in range(many) if not joined(short) >> at & 1]


def spare_skills(limits, crew):
    """The skills of workers without which nothing new is forbidden."""
    short = [row.skills for row, fewest in zip(limits.rows, fewest_workers(limits)) if row.many == fewest]
    found = []
    for at, worker in enumerate(crew):
        for skill in worker:
            # a row loses the worker only if the other skills are none of it
            others = [told for told in worker if told != skill]
            lost = [skills for skills in short if skill in skills and not any([told in skills for told in others])]
            if not lost:
                found.append(("skill", at, skill))
    return found


def without_ask(limits, a, ask):
    """What is forbidden if an activity does not ask for one skill.

    Sets with the activity then ask for so much less.
    """
    skill, many = ask
    found = joined(limits.machines)
    for row in limits.rows:
        family = beyond(row, row.many)
        if skill in row.skills:
            family = family & ~limits.having[a] | beyond(row, row.many + many) & limits.having[a]
        found |= family
    return found


def spare_asks(limits, asks):
    """What activities ask for in a skill, without which nothing less is forbidden."""
    found = []
    for a, told in enumerate(asks):
        found.extend([("ask", a, ask[0]) for ask in told if without_ask(limits, a, ask) == limits.whole])
    return found


def least_crews(limits, many):
    """The bits of the sets of workers of which no smaller part will do, as nothing new may be forbidden."""
    having = families_with(many)
    good = families_from(having, (), 0)[0]
    for row, fewest in zip(limits.rows, fewest_workers(limits)):
        counts = [row.having >> at & 1 for at in range(many)]
        good &= families_from(having, counts, fewest)[fewest]
    return members(least_of(good, having))


def crew_forbids(limits, workers):
    """The sets that some workers cannot serve, told by their bits."""
    return joined([beyond(row, bit_count(row.having & workers)) for row in limits.rows])


def least_machines(limits, family):
    """The sets of machines that forbid a family, of which no smaller part does."""
    found = []
    for some in [()] + all_sets(len(limits.machines)):
        mask = set_mask(some)
        smaller = any([is_part(other, mask) for _, other in found])
        if not smaller and is_part(family, joined([limits.machines[at] for at in some])):
            found.append((some, mask))
    return [some for some, _ in found]


def least_parts(limits, many):
    """The least (machines, workers) with which the same sets are forbidden, in any order.

    With fewer workers no fewer sets are forbidden, so fewer workers never need more machines:
    the workers are as few as can be, and then the machines beside them.
    """
    found = []
    known = {}
    for workers in least_crews(limits, many):
        lacking = limits.whole & ~crew_forbids(limits, workers)
        if lacking not in known:
            known[lacking] = least_machines(limits, lacking)
        found.extend([(machines, tuple(members(workers))) for machines in known[lacking]])
    return found
