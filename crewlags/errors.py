"""The errors that the package raises."""


class CrewError(ValueError):
    """What all errors of the package are."""


class NoNumber(CrewError):
    """An argument is not the integer that is asked for."""

    def __init__(self, part):
        self.part = part


class NoShape(CrewError):
    """A part tells no shape, or an argument is no Shape."""

    def __init__(self, part, index):
        self.part = part
        self.index = index


class NoSet(CrewError):
    """A value is no set of activities."""

    def __init__(self, some):
        self.some = some


class NoDurations(CrewError):
    """A value tells no durations."""

    def __init__(self, index):
        self.index = index


class NoWeights(CrewError):
    """A value tells no weights."""

    def __init__(self, index):
        self.index = index


class NoBound(CrewError):
    """A bound does not show that it is the best one."""

    def __init__(self, part, index):
        self.part = part
        self.index = index


class NoPairs(CrewError):
    """A value tells no pairs of activities."""

    def __init__(self, index):
        self.index = index


class NoOrder(CrewError):
    """A value is no order of the shape."""

    def __init__(self, index):
        self.index = index


class NoGraph(CrewError):
    """A value is no graph."""

    def __init__(self, index):
        self.index = index


class NoStarts(CrewError):
    """A value tells no starts."""

    def __init__(self, index):
        self.index = index


class NoSchedule(CrewError):
    """A schedule does not keep the shape."""

    def __init__(self, fault):
        self.fault = fault


class NoActivity(CrewError):
    """A value is no index of an activity."""

    def __init__(self, one):
        self.one = one


class NoText(CrewError):
    """A text tells no shape."""

    def __init__(self, line):
        self.line = line


class NoChange(CrewError):
    """A shape at a desk cannot be changed so."""

    def __init__(self, word):
        self.word = word


class NoCalendar(CrewError):
    """A part tells no calendar, or an argument is no Calendar."""

    def __init__(self, part, index):
        self.part = part
        self.index = index


class NoProject(CrewError):
    """A part tells no project, or an argument is no Project."""

    def __init__(self, part, index):
        self.part = part
        self.index = index


class NoChoice(CrewError):
    """A value is no choice of modes."""

    def __init__(self, index):
        self.index = index


class NoAhead(CrewError):
    """A value tells no pairs ahead."""

    def __init__(self, index):
        self.index = index


class NoDerivation(CrewError):
    """Steps do not show that no starts keep the times."""

    def __init__(self, part, index):
        self.part = part
        self.index = index


class NoPlan(CrewError):
    """A plan does not keep the project."""

    def __init__(self, fault):
        self.fault = fault


class NoRota(CrewError):
    """Shifts are no rota."""

    def __init__(self, part, index):
        self.part = part
        self.index = index


class NoMix(CrewError):
    """A value is no mix."""

    def __init__(self, index):
        self.index = index


class NoBlind(CrewError):
    """An answer does not show that it is the best one."""

    def __init__(self, part, index):
        self.part = part
        self.index = index


class NoFixed(CrewError):
    """A value tells no fixed starts."""

    def __init__(self, index):
        self.index = index


class NotBeside(CrewError):
    """Two shapes do not stand beside one another."""

    def __init__(self, part):
        self.part = part


class NoBox(CrewError):
    """A value is no box of durations."""

    def __init__(self, index):
        self.index = index


class TooGreat(CrewError):
    """There are more activities than may be."""

    def __init__(self, most):
        self.most = most
