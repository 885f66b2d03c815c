"""What a plan of a project takes: time, cost, and what is used of the stocks."""

from crewlags.projects import chosen_modes


def uses_of(project, choice):
    """What the chosen modes use of each stock, together."""
    modes = chosen_modes(project, choice)
    return tuple([sum([uses[k] for _, _, uses, _ in modes]) for k in range(len(project.stocks))])


def stocks_over(project, uses):
    """The indexes of the stocks of which more is used than there is."""
    return [k for k, used in enumerate(uses) if used > project.stocks[k]]


def modes_cost(project, choice):
    """The sum of the costs of the chosen modes."""
    return sum([cost for _, _, _, cost in chosen_modes(project, choice)])


def late_cost(project, ends):
    """What it costs that activities end behind what is due."""
    total = 0
    for told, end in zip(project.late, ends):
        if told is not None and end > told[0]:
            total += told[1] * (end - told[0])
    return total


def ends_cost(project, ends, time):
    """What the ends cost: the overhead up to a time, and what is late."""
    return project.overhead * time + late_cost(project, ends)
