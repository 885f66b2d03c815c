"""Projects: activities with modes, lags, calendars, set-ups and stocks."""

from crewlags.errors import NoChoice, NoProject
from crewlags.kinds import is_index
from crewlags.parts import asks_fault, crew_fault, names_fault
from crewlags.project_parts import (
    MOST_LEVEL,
    MOST_MACHINES,
    MOST_STOCKS,
    MOST_TIME,
    calendars_fault,
    families_fault,
    lags_fault,
    late_fault,
    levels_fault,
    modes_fault,
    singles_fault,
    whole_fault,
    windows_fault,
)
from crewlags.shapes import Shape

MOST_ACTIVITIES = 5


class Project:
    """Activities that can be done in several modes, and all that limits when they are done."""

    def __init__(self, names, horizon, machines, stocks, modes, *, calendars=(), windows=(), families=(), lags=(),
                 singles=(), crew=(), asks=(), overhead=0, late=()):
        refuse("names", names_fault(names, MOST_ACTIVITIES))
        many = len(names)
        refuse("horizon", whole_fault(horizon, 1, MOST_TIME))
        refuse("machines", levels_fault(machines, MOST_MACHINES))
        refuse("stocks", levels_fault(stocks, MOST_STOCKS))
        refuse("modes", modes_fault(modes, many, machines, stocks))
        refuse("calendars", calendars_fault(calendars, many))
        refuse("windows", windows_fault(windows, many))
        refuse("families", families_fault(families, many))
        refuse("lags", lags_fault(lags, many))
        refuse("singles", singles_fault(singles, many, families))
        refuse("crew", crew_fault(crew))
        refuse("asks", asks_fault(asks, crew, many))
        refuse("overhead", whole_fault(overhead, 0, MOST_LEVEL))
        refuse("late", late_fault(late, many))
        self.names = tuple(names)
        self.horizon = horizon
        self.machines = tuple(machines)
        self.stocks = tuple(stocks)
        self.modes = tuple(modes)
        self.calendars = tuple(calendars)
        self.windows = tuple(windows)
        self.families = tuple(families)
        self.lags = tuple(lags)
        self.singles = tuple(singles)
        self.crew = tuple(crew)
        self.asks = tuple(asks)
        self.overhead = overhead
        self.late = tuple(late)

    def __eq__(self, other):
        return (
            isinstance(other, Project)
            and self.names == other.names
            and self.horizon == other.horizon
            and self.machines == other.machines
            and self.stocks == other.stocks
            and self.modes == other.modes
            and self.calendars == other.calendars
            and self.windows == other.windows
            and self.families == other.families
            and self.lags == other.lags
            and self.singles == other.singles
            and self.crew == other.crew
            and self.asks == other.asks
            and self.overhead == other.overhead
            and self.late == other.late
        )


def refuse(part, at):
    """Raises NoProject if something is wrong with a part."""
    if at is not None:
        raise NoProject(part, at)


def need_project(project):
    """Raises NoProject if it is no Project."""
    if not isinstance(project, Project):
        raise NoProject("project", -1)


def need_choice(project, choice):
    """Raises NoChoice if it is no choice of a mode for each activity of a project."""
    if not isinstance(choice, tuple) or len(choice) != len(project.modes):
        raise NoChoice(-1)
    for a, mode in enumerate(choice):
        if not is_index(mode, len(project.modes[a])):
            raise NoChoice(a)


def chosen_modes(project, choice):
    """The chosen mode of each activity."""
    return [modes[at] for modes, at in zip(project.modes, choice)]


def shape_of(project, choice):
    """The Shape of what must not go on at the same time if modes are chosen."""
    need_project(project)
    need_choice(project, choice)
    modes = chosen_modes(project, choice)
    machines = []
    for at, capacity in enumerate(project.machines):
        machines.append((capacity, tuple([demands[at] for _, demands, _, _ in modes])))
    return Shape(project.names, machines=machines, crew=project.crew, asks=project.asks)
