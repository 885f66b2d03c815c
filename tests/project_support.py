"""What the tests of projects share: drawn projects, and slow ways to find what the package tells."""

import random
from functools import lru_cache
from itertools import combinations, product

from crewlags.calendars import Calendar
from crewlags.projects import Project, shape_of
from tests.support import can_serve, is_forbidden


def plain(works, horizon=20, **parts):
    """A project with one mode for each activity, of told works."""
    modes = tuple(((work, (), (), 0),) for work in works)
    return Project(tuple("abcde"[:len(works)]), horizon, (), (), modes, **parts)


def some_calendar(rnd):
    """A calendar, or None."""
    if rnd.random() < 0.4:
        return None
    cycle = [rnd.random() < 0.7 for _ in range(rnd.randint(1, 5))]
    cycle[0] = True
    slots = sorted(rnd.sample(range(12), rnd.randint(0, 3)))
    return Calendar(cycle, changes=[(slot, rnd.random() < 0.5) for slot in slots])


def some_lag(rnd, many):
    """A lag; sometimes from an activity to itself, sometimes with a high."""
    low = rnd.randint(-6, 5)
    high = None if rnd.random() < 0.5 else low + rnd.randint(0, 6)
    return rnd.choice(("start", "end")), rnd.randrange(many), rnd.choice(("start", "end")), rnd.randrange(many), low, high


def some_project(rnd, many):
    """A small project with a choice, pairs ahead and a most."""
    modes = tuple(tuple((rnd.randint(0, 4), (), (), 0) for _ in range(rnd.randint(1, 2))) for _ in range(many))
    parts = {"lags": [some_lag(rnd, many) for _ in range(rnd.randint(0, 3))]}
    if rnd.random() < 0.6:
        parts["calendars"] = [some_calendar(rnd) for _ in range(many)]
    if rnd.random() < 0.4:
        parts["windows"] = [(rnd.randint(0, 4), rnd.choice((None, rnd.randint(5, 12)))) for _ in range(many)]
    families = [rnd.randint(0, 2) for _ in range(many)] if rnd.random() < 0.7 else ()
    kinds = max(families, default=0) + 1
    if many > 1 and rnd.random() < 0.7:
        members = tuple(sorted(rnd.sample(range(many), rnd.randint(2, many))))
        table = tuple(tuple(rnd.randint(0, 3) for _ in range(kinds)) for _ in range(kinds))
        parts["singles"] = [(members, table)]
    project = Project(tuple("abcd"[:many]), rnd.randint(8, 14), (), (), modes, families=families, **parts)
    choice = tuple(rnd.randrange(len(row)) for row in modes)
    pairs = [(a, b) for a in range(many) for b in range(many) if a != b]
    ahead = [rnd.choice(pairs) for _ in range(rnd.randint(0, 2))] if pairs else []
    return project, choice, ahead, rnd.choice((None, None, rnd.randint(3, 14)))


def slow_end(project, choice, a, start):
    """The end of an activity, slot by slot, None if it cannot start."""
    work = project.modes[a][choice[a]][0]
    calendar = project.calendars[a] if project.calendars else None
    if calendar is None or work == 0:
        return start + work

    def works(slot):
        told = dict(calendar.changes)
        return told[slot] if slot in told else calendar.cycle[slot % len(calendar.cycle)]

    if not works(start):
        return None
    slot = start
    while work:
        work -= works(slot)
        slot += 1
    return slot


def marks(project, choice, a, start):
    """The start and the end of an activity by their words."""
    return {"start": start, "end": slow_end(project, choice, a, start)}


def keeps_lag(lag, first, second):
    """Whether two activities keep a lag, given by their words."""
    one, _, other, _, low, high = lag
    later = second[other] - first[one]
    return later >= low and (high is None or later <= high)


def set_up(project, a, b):
    """The set-up from one activity to another one."""
    for members, table in project.singles:
        if a in members and b in members:
            return table[project.families[a]][project.families[b]] if project.families else table[0][0]
    return 0


def slow_possible(project, choice, a, most):
    """The possible starts, by the words of the document."""
    found = []
    for start in range(0, 61):
        told = marks(project, choice, a, start)
        release, deadline = project.windows[a] if project.windows else (0, None)
        if start < release or told["end"] is None or told["end"] > project.horizon:
            continue
        if deadline is not None and told["end"] > deadline or most is not None and told["end"] > most:
            continue
        if all(keeps_lag(lag, told, told) for lag in project.lags if lag[1] == lag[3] == a):
            found.append(start)
    return found


def keeps_times(project, choice, ahead, starts):
    """Whether possible starts keep the times."""
    told = [marks(project, choice, a, start) for a, start in enumerate(starts)]
    if not all(keeps_lag(lag, told[lag[1]], told[lag[3]]) for lag in project.lags):
        return False
    return all(told[b]["start"] >= told[a]["end"] + set_up(project, a, b) for a, b in ahead)


def slow_times(project, choice, ahead, most):
    """What times has to tell, by a search through all starts."""
    rows = [slow_possible(project, choice, a, most) for a in range(len(project.names))]
    good = [starts for starts in product(*rows) if keeps_times(project, choice, ahead, starts)]
    if not good:
        return None
    least, greatest = tuple(map(min, zip(*good))), tuple(map(max, zip(*good)))
    assert least in good and greatest in good
    return least, greatest


def slow_fault(project, choice, steps, ahead, most):
    """What check_derivation has to raise for steps that have the form of steps, by the words of the document."""
    rows = [slow_possible(project, choice, a, most) for a in range(len(project.names))]
    bounds = [0] * len(rows)

    def left(a):
        return [start for start in rows[a] if start >= bounds[a]]

    for at, (a, time, reason) in enumerate(steps):
        early = [start for start in left(a) if start < time]
        if reason[0] == "lag":
            if not 0 <= reason[1] < len(project.lags):
                return "steps", at
            one, first, other, second, low, high = project.lags[reason[1]]
            if first == second or a not in (first, second) or (a == first and high is None):
                return "steps", at
            rest = left(first + second - a)
            if rest and a == second:
                gap = marks(project, choice, first, rest[0])[one] + low
                early = [start for start in early if marks(project, choice, a, start)[other] >= gap]
            elif rest:
                gap = marks(project, choice, second, rest[0])[other] - high
                early = [start for start in early if marks(project, choice, a, start)[one] >= gap]
            else:
                early = []
        elif reason[0] == "ahead":
            if not 0 <= reason[1] < len(ahead) or ahead[reason[1]][1] != a:
                return "steps", at
            first = ahead[reason[1]][0]
            rest = left(first)
            gap = marks(project, choice, first, rest[0])["end"] + set_up(project, first, a) if rest else 10 ** 40
            early = [start for start in early if start >= gap]
        if early:
            return "steps", at
        bounds[a] = max(bounds[a], time)
    return ("open", -1) if all(left(a) for a in range(len(rows))) else None


def overlap(one, other):
    """Whether two activities overlap, given by their words; without an end nothing does."""
    if one["end"] is None or other["end"] is None:
        return False
    return one["start"] < other["end"] and other["start"] < one["end"]


def lag_fault(lag, first, second):
    """What is wrong with a lag between two activities: "low", "high" or None."""
    one, _, other, _, low, high = lag
    if first[one] is None or second[other] is None:
        return None
    later = second[other] - first[one]
    if later < low:
        return "low"
    return "high" if high is not None and later > high else None


def single_faults(project, told):
    """The faults of the singles."""
    found = []
    for k, (members, table) in enumerate(project.singles):
        for a, b in combinations(members, 2):
            one, other = told[a], told[b]
            if one["end"] is None or other["end"] is None:
                continue
            f, g = (project.families[a], project.families[b]) if project.families else (0, 0)
            if other["start"] < one["end"] + table[f][g] and one["start"] < other["end"] + table[g][f]:
                found.append(("single", k, a, b))
    return found


@lru_cache(maxsize=None)
def least_forbidden_of(seed, choice):
    """The forbidden sets of a drawn project of which no smaller part is forbidden."""
    return forbidden_cores(drawn(seed), choice)


def forbidden_cores(project, choice):
    """The forbidden sets of which no smaller part is forbidden, by trying."""
    shape = shape_of(project, choice)
    many = len(project.names)
    sets = [some for size in range(1, many + 1) for some in combinations(range(many), size) if is_forbidden(shape, some)]
    return [some for some in sets if not any(set(other) < set(some) for other in sets)]


def slow_faults(project, choice, starts, cores=None):
    """All faults of a plan, by the words of the document."""
    many = len(starts)
    told = [marks(project, choice, a, start) for a, start in enumerate(starts)]
    windows = project.windows or ((0, None),) * many
    known = [a for a in range(many) if told[a]["end"] is not None]
    found = [("rest", a) for a in range(many) if a not in known]
    found += [("release", a) for a in range(many) if starts[a] < windows[a][0]]
    found += [("deadline", a) for a in known if windows[a][1] is not None and windows[a][1] < told[a]["end"]]
    found += [("horizon", a) for a in known if project.horizon < told[a]["end"]]
    for k, lag in enumerate(project.lags):
        word = lag_fault(lag, told[lag[1]], told[lag[3]])
        if word is not None:
            found.append((word, k))
    found += single_faults(project, told)
    for k, stock in enumerate(project.stocks):
        if sum(project.modes[a][choice[a]][2][k] for a in range(many)) > stock:
            found.append(("stock", k))
    for some in forbidden_cores(project, choice) if cores is None else cores:
        if all(overlap(told[a], told[b]) for a, b in combinations(some, 2)):
            found.append(("together", some, max(starts[a] for a in some)))
    return found


def slow_account(project, choice, starts):
    """The account of a plan, by the words of the document."""
    ends = [slow_end(project, choice, a, start) for a, start in enumerate(starts)]
    modes = [project.modes[a][mode] for a, mode in enumerate(choice)]
    cost = sum(mode[3] for mode in modes) + project.overhead * max(ends)
    for a, late in enumerate(project.late):
        if late is not None:
            cost += late[1] * max(0, ends[a] - late[0])
    return max(ends), cost, tuple(sum(mode[2][k] for mode in modes) for k in range(len(project.stocks)))


def some_crew(rnd, many):
    """A crew of workers with several skills, and what so many activities ask of it."""
    skills = ["dig", "lift", "weld"][:rnd.randint(1, 3)]
    crew = [tuple(rnd.sample(skills, rnd.randint(1, len(skills)))) for _ in range(rnd.randint(2, 4))]
    asks = []
    while len(asks) < many:
        told = rnd.sample(skills, rnd.randint(0, len(skills)))
        ask = tuple((skill, rnd.randint(1, 2)) for skill in told)
        if can_serve(crew, ask):
            asks.append(ask)
    return {"crew": crew, "asks": asks}


def some_singles(rnd, many, kinds):
    """One or two singles."""
    def table():
        return tuple(tuple(rnd.randint(0, 3) for _ in range(kinds)) for _ in range(kinds))

    members = tuple(sorted(rnd.sample(range(many), rnd.randint(2, many))))
    rows = [(members, table())]
    others = [pair for pair in combinations(range(many), 2) if len(set(pair) & set(members)) < 2]
    if others and rnd.random() < 0.5:
        rows.append((rnd.choice(others), table()))
    return {"singles": rows}


def drawn_project(rnd, many, horizon, choices=2, longest=4):
    """A small project with something of everything, or only of some things."""
    machines = tuple(rnd.randint(1, 4) for _ in range(rnd.randint(0, 2)))
    stocks = tuple(rnd.randint(2, 9) for _ in range(rnd.randint(0, 2)))

    def mode():
        demands = tuple(rnd.randint(0, capacity) for capacity in machines)
        return rnd.randint(0, longest), demands, tuple(rnd.randint(0, 4) for _ in stocks), rnd.randint(0, 9)

    modes = tuple(tuple(mode() for _ in range(rnd.randint(1, choices))) for _ in range(many))
    families = tuple(rnd.randint(0, 2) for _ in range(many)) if rnd.random() < 0.7 else ()
    parts = {"families": families}
    if rnd.random() < 0.5:
        parts["lags"] = [some_lag(rnd, many) for _ in range(rnd.randint(1, 2))]
    if rnd.random() < 0.4:
        parts["calendars"] = [some_calendar(rnd) for _ in range(many)]
    if rnd.random() < 0.3:
        parts["windows"] = [(rnd.randint(0, 2), rnd.choice((None, rnd.randint(4, horizon)))) for _ in range(many)]
    if many > 1 and rnd.random() < 0.5:
        parts.update(some_singles(rnd, many, max(families, default=0) + 1))
    if rnd.random() < 0.5:
        parts.update(some_crew(rnd, many))
    if rnd.random() < 0.5:
        parts["overhead"] = rnd.randint(0, 3)
    if rnd.random() < 0.6:
        parts["late"] = [rnd.choice((None, (rnd.randint(0, horizon), rnd.randint(0, 5)))) for _ in range(many)]
    return Project(tuple("abcde"[:many]), horizon, machines, stocks, modes, **parts)


@lru_cache(maxsize=None)
def drawn(seed):
    """A drawn project of one to three activities; equal seeds tell equal ones."""
    many = 1 + seed % 3
    return drawn_project(random.Random(seed), many, (9, 8, 6)[many - 1])


def every_choice(project):
    """All choices."""
    return list(product(*[range(len(modes)) for modes in project.modes]))


def single_starts(project, choice):
    """For each activity the starts with which nothing about it alone is wrong."""
    rows = []
    for a in range(len(project.names)):
        release, deadline = project.windows[a] if project.windows else (0, None)
        last = project.horizon if deadline is None else min(deadline, project.horizon)
        ends = {start: slow_end(project, choice, a, start) for start in range(release, last + 1)}
        rows.append([start for start, end in ends.items() if end is not None and end <= last])
    return rows


@lru_cache(maxsize=None)
def good_rows(seed, choice):
    """The starts of all plans of a drawn project that keep it, ascending."""
    project = drawn(seed)
    cores = least_forbidden_of(seed, choice)
    rows = product(*single_starts(project, choice))
    return tuple(row for row in rows if not slow_faults(project, choice, row, cores))


@lru_cache(maxsize=None)
def all_accounts(seed):
    """For each account of a plan that keeps a drawn project these plans."""
    project = drawn(seed)
    found = {}
    for choice in every_choice(project):
        for row in good_rows(seed, choice):
            found.setdefault(slow_account(project, choice, row), []).append((choice, row))
    return found
