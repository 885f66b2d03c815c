"""What the tests share: values of all kinds, shapes, and slow ways to find what the package tells."""

import random
from fractions import Fraction
from itertools import combinations, permutations, product

from crewlags.calendars import Calendar
from crewlags.errors import CrewError, NoShape
from crewlags.projects import Project
from crewlags.shapes import Shape

THREE = Shape(("a", "b", "c"), machines=((2, (1, 1, 1)),))
FOUR = Shape(
    ("a", "b", "c", "d"),
    before=((0, 1),),
    machines=((2, (1, 1, 1, 1)),),
    crew=(("weld",), ("weld", "lift")),
    asks=((), (("lift", 1),), (("weld", 2),), (("weld", 1),)),
)
WEEK = Calendar((True, True, False), changes=((4, False),))
PLAN = Project(
    ("a", "b"), 9, (), (), (((2, (), (), 0),), ((3, (), (), 0),)), calendars=(None, Calendar((True, False))),
    lags=(("end", 0, "start", 1, 0, 1),),
)
# the project of the examples of [58] and [73]
DIGGING = Project(
    ("a", "b"), 20, (3,), (), (((2, (2,), (), 5),), ((3, (2,), (), 1),)), overhead=10, late=(None, (4, 7)),
    crew=(("dig",), ("dig", "lift")), asks=((("dig", 1),), (("lift", 1),)),
)


def side_by_side(many, most):
    """A shape with nothing ahead of anything, any so many of whose activities may go on at a time."""
    return Shape(tuple("abcdefg"[:many]), machines=((most, (1,) * many),))


def ring_of_seven():
    """Seven activities, any two of which may not go on together if they are next to one another in a ring."""
    skills = ("p", "q", "r", "s")
    machines = [(1, tuple(1 if a in (first, first + 1) else 0 for a in range(7))) for first in (0, 2, 4)]
    asks = [[] for _ in range(7)]
    for skill, (one, other) in zip(skills, ((1, 2), (3, 4), (5, 6), (6, 0))):
        asks[one].append((skill, 1))
        asks[other].append((skill, 1))
    crew = tuple((skill,) for skill in skills)
    return Shape(tuple("abcdefg"), machines=machines, crew=crew, asks=tuple(tuple(ask) for ask in asks))


def looped():
    """A list that has itself as its only item."""
    rows = []
    rows.append(rows)
    return rows


def steps():
    """A generator."""
    yield 1


def odd_values():
    """Values of the built-in kinds, and of the package's own; none of them tells anything that is asked for."""
    return [
        None, True, False, -1, -(10 ** 30), 10 ** 30, 1j, "", "no such", b"", b"ab", bytearray(b"ab"), memoryview(b"ab"),
        {}, {0: 1}, set(), {0, 1}, frozenset((0, 1)), range(3), slice(0, 2), object(), int, tuple, Shape, CrewError,
        THREE, WEEK, PLAN, Calendar, NoShape("names", 0), ValueError("no"), len, steps, lambda: 0, steps(), iter([]), zip(), enumerate([]),
        reversed([]), {}.items(), {}.keys(), map(len, []), Ellipsis, NotImplemented, looped(), [None], (None,),
        [looped()], (looped(),), type, property(), "".join, random,
    ]


def no_rows():
    """Values that are no list or tuple."""
    return [value for value in odd_values() if not isinstance(value, (list, tuple))]


def wrong_pairs(many):
    """What is no PAIR of so many activities."""
    return odd_values() + [
        [0, 1], (), (0,), (0, 1, 2), (0, 0), (0, many), (many, 0), (-1, 0), (0, -1), (True, 0), (0, True), (False, 1),
        (0, None), ("0", "1"), "01", {0: 1, 1: 0}, ((0, 1),), (0, (1,)), (0, [1]), (0, looped()), (0, 1j), b"\x00\x01",
    ]


def fraction(value):
    """A NUMBER as a Fraction; it has to be one."""
    if isinstance(value, tuple):
        top, bottom = value
        assert isinstance(top, int) and isinstance(bottom, int) and bottom > 1
        told = Fraction(top, bottom)
        assert (told.numerator, told.denominator) == value
        return told
    assert isinstance(value, int) and not isinstance(value, bool)
    return Fraction(value)


def number(told):
    """A Fraction as a NUMBER."""
    told = Fraction(told)
    return told.numerator if told.denominator == 1 else (told.numerator, told.denominator)


def every_set(many):
    """All sets of one or more activities, in their order."""
    return [some for size in range(1, many + 1) for some in combinations(range(many), size)]


def every_pair(many):
    """All pairs with the lesser activity first, ascending."""
    return list(combinations(range(many), 2))


def every_graph(many):
    """All graphs of so many activities, ascending lists."""
    pairs = every_pair(many)
    return [[pair for pair, told in zip(pairs, bits) if told] for bits in product((0, 1), repeat=len(pairs))]


def is_transitive(order):
    """Whether pairs are an order of anything."""
    told = set(order)
    return all((a, d) in told for a, b in told for c, d in told if b == c) and all((b, a) not in told for a, b in told)


def every_order(many):
    """All orders of so many activities, as ascending lists."""
    found = []
    for ways in product((0, 1, 2), repeat=len(every_pair(many))):
        order = [pair if way == 1 else pair[::-1] for pair, way in zip(every_pair(many), ways) if way]
        if is_transitive(order):
            found.append(sorted(order))
    return found


def closure(pairs):
    """The pairs, and those that follow from them."""
    told = set(pairs)
    while True:
        more = {(a, d) for a, b in told for c, d in told if b == c} - told
        if not more:
            return told
        told |= more


def graph(order):
    """The graph of an order."""
    return sorted({(min(pair), max(pair)) for pair in order})


def is_free(some, pairs):
    """Whether no two members of a set are a pair."""
    return not any((a, b) in pairs or (b, a) in pairs for a, b in combinations(some, 2))


def can_serve(crew, asks):
    """Whether a crew has a worker of its own for each thing that is asked for: by trying."""
    wanted = [skill for skill, many in asks for _ in range(many)]
    serves = {}

    def find(at, seen):
        for worker, skills in enumerate(crew):
            if wanted[at] in skills and worker not in seen:
                seen.add(worker)
                if worker not in serves or find(serves[worker], seen):
                    serves[worker] = at
                    return True
        return False

    return all(find(at, set()) for at in range(len(wanted)))


def is_forbidden(shape, some):
    """Whether a set is forbidden."""
    if any(sum(demands[a] for a in some) > capacity for capacity, demands in shape.machines):
        return True
    return bool(shape.asks) and not can_serve(shape.crew, [ask for a in some for ask in shape.asks[a]])


def forbidden_sets(shape):
    """All forbidden sets, in their order."""
    return [some for some in every_set(len(shape.names)) if is_forbidden(shape, some)]


def allowed(shape):
    """All allowed sets, in their order."""
    ahead = closure(shape.before)
    return [some for some in every_set(len(shape.names)) if is_free(some, ahead) and not is_forbidden(shape, some)]


def first_free(shape, pairs):
    """The first forbidden set that is free in some pairs, or None."""
    for some in forbidden_sets(shape):
        if is_free(some, pairs):
            return some
    return None


def orders_of(shape, orders):
    """Those of all orders that are orders of the shape."""
    ahead = closure(shape.before)
    return [order for order in orders if ahead <= set(order)]


def resolving_graphs(shape, orders):
    """The graphs of the orders that resolve the shape."""
    graphs = {tuple(graph(order)) for order in orders_of(shape, orders)}
    return [list(told) for told in graphs if first_free(shape, told) is None]


def all_least(shape, orders):
    """The least graphs, in their order."""
    graphs = resolving_graphs(shape, orders)
    least = [told for told in graphs if not any(set(other) < set(told) for other in graphs)]
    return sorted(least, key=lambda told: (len(told), told))


def longest_path(order, durations):
    """The starts of the earliest schedule along an order, by recursion."""
    def start(b):
        return max([start(a) + fraction(durations[a]) for a, other in order if other == b], default=Fraction(0))
    return [start(b) for b in range(len(durations))]


def end_of(starts, durations):
    """The greatest end of starts that are Fractions."""
    return max(start + fraction(duration) for start, duration in zip(starts, durations))


def overlap(durations, starts, a, b):
    """Whether two activities overlap."""
    one, other = fraction(starts[a]), fraction(starts[b])
    return one < other + fraction(durations[b]) and other < one + fraction(durations[a])


def faults(shape, durations, starts):
    """All faults of a schedule."""
    told = [
        ("before", a, b) for a, b in sorted(set(shape.before))
        if fraction(starts[b]) < fraction(starts[a]) + fraction(durations[a])
    ]
    sets = forbidden_sets(shape)
    for some in sets:
        is_least = not any(set(other) < set(some) for other in sets)
        if is_least and all(overlap(durations, starts, a, b) for a, b in combinations(some, 2)):
            told.append(("together", some))
    return told


def placed(shape, row, durations):
    """The starts of the schedule in which each activity of a row starts as early as it can beside those ahead."""
    starts = {}
    for a in row:
        ends = {starts[b] + fraction(durations[b]) for b in starts}
        first = max([starts[b] + fraction(durations[b]) for b, c in shape.before if c == a], default=Fraction(0))
        for start in sorted({first} | {end for end in ends if end > first}):
            tried = {**starts, a: start}
            if not any(is_forbidden(shape, some) and all_overlap(durations, tried, some) for some in parts(tried, a)):
                starts = tried
                break
    return [starts[a] for a in range(len(row))]


def parts(starts, a):
    """All sets of activities that have a start, with a among them."""
    others = sorted(b for b in starts if b != a)
    return [tuple(sorted(some + (a,))) for size in range(len(others) + 1) for some in combinations(others, size)]


def all_overlap(durations, starts, some):
    """Whether each two of some activities overlap, the starts being Fractions."""
    return all(
        starts[a] < starts[b] + fraction(durations[b]) and starts[b] < starts[a] + fraction(durations[a])
        for a, b in combinations(some, 2)
    )


def least_length(shape, durations):
    """The least length of a schedule: some row leads to it, if each activity is put as early as it can be."""
    many = len(shape.names)
    best = None
    for row in permutations(range(many)):
        if all(row.index(a) < row.index(b) for a, b in shape.before):
            length = end_of(placed(shape, row, durations), durations)
            best = length if best is None else min(best, length)
    return best


def some_crew(rnd, many):
    """A crew, and what so many activities ask of it."""
    skills = rnd.sample(["dig", "lift", "weld", "x-1", "y"], rnd.randint(1, 5))
    crew = [tuple(rnd.sample(skills, rnd.randint(0, len(skills)))) for _ in range(rnd.randint(1, 8))]
    asks = []
    while len(asks) < many:
        told = rnd.sample(skills, rnd.randint(0, min(3, len(skills))))
        ask = tuple((skill, rnd.randint(1, 3)) for skill in told)
        if can_serve(crew, ask):
            asks.append(ask)
    return crew, asks


def some_shape(seed, many):
    """A shape of so many activities; equal seeds tell equal ones."""
    rnd = random.Random(seed)
    row = list(range(many))
    rnd.shuffle(row)
    often = rnd.choice((0, 0, 0.1, 0.3))
    before = [(row[a], row[b]) for a, b in every_pair(many) if rnd.random() < often]
    rnd.shuffle(before)
    machines = []
    for _ in range(rnd.randint(0, 3)):
        demands = tuple(rnd.randint(0, 4) for _ in range(many))
        machines.append((max(demands + (rnd.randint(1, 9),)), demands))
    crew, asks = some_crew(rnd, many) if rnd.random() < 0.5 else ((), ())
    return Shape(tuple("abcdefg"[:many]), before=before, machines=machines, crew=crew, asks=asks)


def some_amount(rnd):
    """An AMOUNT: often 0, an integer, or a fraction."""
    kind = rnd.randint(0, 4)
    if kind == 0:
        return 0
    if kind < 4:
        return rnd.randint(1, 6)
    return number(Fraction(rnd.randint(1, 12), rnd.randint(1, 5)))


def some_durations(rnd, many):
    """Durations of so many activities."""
    return tuple(some_amount(rnd) for _ in range(many))


def fields(error):
    """What an error was raised with, by the names of its fields."""
    return dict(vars(error))


def raised(call):
    """The class and the fields of the error of the package that a call raises, None if it raises none."""
    try:
        call()
    except CrewError as error:
        return type(error), fields(error)
    return None


def wrong_graphs():
    """What is no graph of three activities, each with the index that NoGraph tells."""
    rows = [(value, -1) for value in no_rows() + [{(0, 1): 1}, {(0, 1)}, "01"]]
    for value in wrong_pairs(3) + [(1, 0), (2, 0), (2, 1)]:
        rows += [([value], 0), ((value,), 0), ([(0, 2), value, (0, 2), None], 1)]
    return rows + [([(0, 1), (1, 2), (0, 1)], 2), (((0, 1), (0, 1), (1, 0)), 1), ([(0, 1), (0, 2), (1, 2), (0, 2)], 3)]


def cliques(pairs, many):
    """All sets of activities of which each two are a pair."""
    return [some for some in every_set(many) if all(pair in pairs for pair in combinations(some, 2))]


def greatest(sets):
    """Those of some sets that are part of no other one, in their order."""
    return [some for some in sets if not any(set(some) < set(other) for other in sets)]


def slow_height(pairs, some):
    """The height of a set, and the first set of so many members that shows it."""
    parts = [part for size in range(len(some) + 1) for part in combinations(some, size)]
    told = [part for part in parts if all(pair in pairs for pair in combinations(part, 2))]
    most = max(len(part) for part in told)
    return most, [part for part in told if len(part) == most][0]


def slow_time(pairs, durations):
    """The time of a graph, as a Fraction."""
    return max(sum(fraction(durations[a]) for a in some) for some in cliques(pairs, len(durations)))


def on_set(some, many):
    """Durations of 1 on a set and of 0 elsewhere."""
    return tuple(1 if a in some else 0 for a in range(many))


def wrong_amounts():
    """What is no AMOUNT."""
    return [
        True, False, -1, None, "1", b"1", [1, 2], (1,), (1, 2, 3), (), (2, 4), (3, 1), (0, 1), (0, 2), (1, 0), (1, -2),
        (-1, 2), (-1, -2), (True, 2), (1, True), (3, 3), ((1, 2), 3), (1, (2, 3)), [1], {}, {1, 2}, range(2), 1j, Shape,
        THREE, NoShape("a", 1), looped(), None, ("1", 2), (1, "2"), (1, None), Fraction(1, 2),
    ]
