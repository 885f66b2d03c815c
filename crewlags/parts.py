"""The parts of a shape as they are handed in.

Each function tells what is wrong with a part: -1 for the part as a whole, the
index of its first item that is none, or None if nothing is.
"""

from crewlags.ahead import with_pair
from crewlags.kinds import is_name, is_pair, is_row, is_within
from crewlags.limits import asked_skills, crew_limits, first_over, skills_of

MOST_PAIRS = 30
MOST_MACHINES = 4
MOST_CAPACITY = 1000
MOST_WORKERS = 8
MOST_SKILLS = 5
MOST_ASKS = 3


def names_fault(names, most):
    """What is wrong with the names of one to so many activities."""
    if not is_row(names) or not 1 <= len(names) <= most:
        return -1
    told = {}
    for at, name in enumerate(names):
        if not is_name(name) or name in told:
            return at
        told[name] = True
    return None


def before_fault(before, many):
    """What is wrong with the pairs that tell what goes ahead of what."""
    if not is_row(before) or len(before) > MOST_PAIRS:
        return -1
    after = [0] * many
    for at, pair in enumerate(before):
        if not is_pair(pair, many) or after[pair[1]] >> pair[0] & 1:
            return at
        after = with_pair(after, pair[0], pair[1])
    return None


def is_machine(value, many):
    """Whether a value is a tuple of a capacity and of a demand for each activity."""
    if not isinstance(value, tuple) or len(value) != 2:
        return False
    capacity, demands = value
    if not is_within(capacity, 0, MOST_CAPACITY) or not isinstance(demands, tuple) or len(demands) != many:
        return False
    return all([is_within(demand, 0, capacity) for demand in demands])


def machines_fault(machines, many):
    """What is wrong with the machines."""
    if not is_row(machines) or len(machines) > MOST_MACHINES:
        return -1
    for at, machine in enumerate(machines):
        if not is_machine(machine, many):
            return at
    return None


def is_worker(value):
    """Whether a value is a tuple of different names of skills."""
    if not isinstance(value, tuple) or len(value) > MOST_SKILLS:
        return False
    return all([is_name(skill) for skill in value]) and len(skills_of([value])) == len(value)


def crew_fault(crew):
    """What is wrong with the crew."""
    if not is_row(crew) or len(crew) > MOST_WORKERS:
        return -1
    for at, worker in enumerate(crew):
        if not is_worker(worker) or len(skills_of(crew[:at + 1])) > MOST_SKILLS:
            return at
    return None


def is_ask(value):
    """Whether a value is a tuple of a skill and of how many workers are asked for in it."""
    if not isinstance(value, tuple) or len(value) != 2:
        return False
    return is_name(value[0]) and is_within(value[1], 1, MOST_WORKERS)


def are_asks(value):
    """Whether a value tells what an activity asks for: a tuple of asks for different skills."""
    if not isinstance(value, tuple) or len(value) > MOST_ASKS:
        return False
    return all([is_ask(ask) for ask in value]) and len(asked_skills([value])) == len(value)


def asks_fault(asks, crew, many):
    """What is wrong with the asks of so many activities, beside a crew that is right."""
    if not is_row(asks) or len(asks) not in (0, many):
        return -1
    had = skills_of(crew)
    for at, item in enumerate(asks):
        if not are_asks(item) or len(skills_of([had, asked_skills(asks[:at + 1])])) > MOST_SKILLS:
            return at
        if first_over(crew_limits(crew, [item]), (0,)) is not None:
            return at
    return None
