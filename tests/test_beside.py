"""[33] to [36]: shapes beside one another, what is idle, what is enough, capacities."""

import random
import sys
import unittest
from itertools import combinations

from crewlags.beside import capacities, enough, idle, longer_for, parted
from crewlags.errors import NoShape, NotBeside
from crewlags.lengths import least_time
from crewlags.shapes import Shape, allowed_sets
from tests.support import (
    FOUR, THREE, allowed, closure, every_set, fraction, is_forbidden, is_free, odd_values, raised, ring_of_seven,
    side_by_side, some_durations, some_shape,
)

EXAMPLE = Shape(
    ("a", "b", "c"), machines=((2, (1, 1, 1)), (9, (1, 2, 3))), crew=(("x",), ("x",)), asks=((("x", 1),),) * 3,
)
SHAPES = [some_shape(seed, many) for many in (1, 2, 3, 4, 5) for seed in range(16)]


class Loose:
    """What a Shape would be with parts that it would perhaps refuse."""

    def __init__(self, shape, **parts):
        for name in ("names", "before", "machines", "crew", "asks"):
            setattr(self, name, parts.get(name, getattr(shape, name)))


def free_sets(shape):
    """The sets of which no two members are ordered."""
    ahead = closure(shape.before)
    return [some for some in every_set(len(shape.names)) if is_free(some, ahead)]


def dropped(rows, at):
    """A tuple without its item at an index."""
    return rows[:at] + rows[at + 1:]


def put(rows, at, row):
    """A tuple with another item at an index."""
    return rows[:at] + (row,) + rows[at + 1:]


def slow_idle(shape):
    """What idle has to tell: each thing is taken away in turn."""
    rows = [(("machine", at), {"machines": dropped(shape.machines, at)}) for at in range(len(shape.machines))]
    rows += [(("worker", at), {"crew": dropped(shape.crew, at)}) for at in range(len(shape.crew))]
    for at, worker in enumerate(shape.crew):
        for skill in worker:
            left = tuple(one for one in worker if one != skill)
            rows.append((("skill", at, skill), {"crew": put(shape.crew, at, left)}))
    for a, ask in enumerate(shape.asks):
        for skill, _ in ask:
            left = tuple(one for one in ask if one[0] != skill)
            rows.append((("ask", a, skill), {"asks": put(shape.asks, a, left)}))
    return [told for told, parts in rows if allowed(Loose(shape, **parts)) == allowed(shape)]


def slow_enough(shape):
    """What enough has to tell: all machines and workers are tried."""
    good = []
    for machines in parts(len(shape.machines)):
        for workers in parts(len(shape.crew)):
            kept = {"machines": [shape.machines[at] for at in machines], "crew": [shape.crew[at] for at in workers]}
            if allowed(Loose(shape, **kept)) == allowed(shape):
                good.append((machines, workers))
    least = [
        one for one in good
        if not any(other != one and all(set(x) <= set(y) for x, y in zip(other, one)) for other in good)
    ]
    return sorted(least, key=lambda pair: (len(pair[0]) + len(pair[1]), pair))


def parts(many):
    """All ascending tuples of so many indexes."""
    return [some for size in range(many + 1) for some in combinations(range(many), size)]


def with_capacity(shape, at, capacity):
    """What a shape is with another capacity of a machine, a demand beyond it perhaps."""
    return Loose(shape, machines=put(shape.machines, at, (capacity, shape.machines[at][1])))


def is_same_with(shape, at, capacity):
    """Whether the same sets are allowed with another capacity of a machine."""
    return allowed(with_capacity(shape, at, capacity)) == allowed(shape)


def beside_pairs():
    """Shapes that stand beside one another, of several numbers of activities."""
    rnd = random.Random(1)
    rows = []
    for many in (1, 2, 3, 4, 5):
        for seed in range(14):
            one, other = some_shape(seed, many), some_shape(seed + 100, many)
            rows.append((one, Shape(one.names, before=one.before, machines=other.machines, crew=other.crew,
                                    asks=other.asks)))
            if one.machines:
                capacity, demands = one.machines[0]
                narrow = (max(demands + (capacity - rnd.randint(0, 3),)), demands)
                rows.append((one, Shape(one.names, before=one.before, machines=(narrow,) + one.machines[1:],
                                        crew=one.crew, asks=one.asks)))
    return rows + [(EXAMPLE, THREE), (THREE, side_by_side(3, 1)), (FOUR, FOUR)]


class Beside(unittest.TestCase):
    def test_longer_for(self):
        seen = set()
        for one, other in beside_pairs():
            for shape, beside in ((one, other), (other, one)):
                told = longer_for(shape, beside)
                more = [some for some in allowed(beside) if some not in allowed(shape)]
                seen.add(len(more[0]) if more else 0)
                if not more:
                    self.assertIsNone(told)
                    continue
                durations = tuple(1 if a in more[0] else 0 for a in range(len(shape.names)))
                times = (least_time(shape, durations)[0], least_time(beside, durations)[0])
                self.assertEqual(told, (durations,) + times)
                self.assertGreater(told[1], told[2])
        self.assertLessEqual({0, 2, 3}, seen)

    def test_parted(self):
        seen = set()
        for one, other in beside_pairs():
            for shape, beside in ((one, other), (other, one)):
                told = parted(shape, beside)
                ones, others = allowed(shape), allowed(beside)
                unlike = [some for some in every_set(len(shape.names)) if (some in ones) != (some in others)]
                if not unlike:
                    self.assertIsNone(told)
                    seen.add(None)
                    continue
                durations = tuple(1 if a in unlike[0] else 0 for a in range(len(shape.names)))
                times = (least_time(shape, durations)[0], least_time(beside, durations)[0])
                self.assertEqual(told, (durations,) + times)
                seen.add(times)
        self.assertEqual(seen, {None, (1, 2), (2, 1)})

    def test_for_all_durations(self):
        rnd = random.Random(2)
        for one, other in beside_pairs():
            for _ in range(3):
                durations = some_durations(rnd, len(one.names))
                times = [fraction(least_time(shape, durations)[0]) for shape in (one, other)]
                if longer_for(one, other) is None:
                    self.assertLessEqual(times[0], times[1])
                if parted(one, other) is None:
                    self.assertEqual(times[0], times[1])

    def test_the_first_set(self):
        wide = Shape(tuple("abc"))
        self.assertEqual(longer_for(THREE, wide), ((1, 1, 1), 2, 1))
        self.assertIsNone(longer_for(wide, THREE))
        self.assertEqual(parted(wide, THREE), ((1, 1, 1), 1, 2))
        self.assertEqual(longer_for(side_by_side(3, 1), wide), ((1, 1, 0), 2, 1))
        some = Shape(tuple("abc"), machines=((1, (0, 1, 1)),))
        self.assertEqual(longer_for(some, side_by_side(3, 2)), ((0, 1, 1), 2, 1))
        self.assertEqual(parted(some, side_by_side(3, 1)), ((1, 1, 0), 1, 2))
        self.assertEqual(longer_for(THREE, some), None)
        # each of both has a set that the other one has not
        ones, others = Shape(tuple("abc"), machines=((1, (1, 1, 0)),)), Shape(tuple("abc"), machines=((1, (0, 1, 1)),))
        self.assertEqual(longer_for(ones, others), ((1, 1, 0), 2, 1))
        self.assertEqual(longer_for(others, ones), ((0, 1, 1), 2, 1))
        self.assertEqual(parted(ones, others), ((1, 1, 0), 2, 1))
        self.assertEqual(parted(others, ones), ((1, 1, 0), 1, 2))

    def test_other_names_are_no_matter(self):
        self.assertIsNone(parted(THREE, Shape(("x", "y", "z"), machines=((2, (1, 1, 1)),))))
        self.assertIsNone(parted(EXAMPLE, THREE))
        self.assertIsNone(longer_for(EXAMPLE, THREE))
        self.assertIsNone(longer_for(THREE, EXAMPLE))

    def test_the_same_goes_ahead_by_other_pairs(self):
        rows = (
            ((0, 1), (1, 2)), ((1, 2), (0, 1)), ((0, 1), (0, 1), (1, 2)), ((0, 2), (0, 1), (1, 2)), ((0, 1), (1, 2), (0, 2)),
        )
        shapes = [Shape(("a", "b", "c"), before=before) for before in rows]
        for one in shapes:
            for other in shapes:
                self.assertIsNone(parted(one, other))
                self.assertIsNone(longer_for(one, other))

    def test_not_beside(self):
        def both(one, other, part):
            for function in (longer_for, parted):
                self.assertEqual(raised(lambda: function(one, other)), (NotBeside, {"part": part}))

        names = ("a", "b", "c")
        chain = Shape(names, before=((0, 1), (1, 2)))
        for before in ((), ((0, 1),), ((0, 2),), ((0, 1), (2, 1)), ((1, 0), (1, 2)), ((0, 1), (0, 2)), ((2, 1), (1, 0))):
            both(chain, Shape(names, before=before), "before")
            both(Shape(names, before=before), chain, "before")
        both(Shape(("a", "b"), before=((0, 1),)), Shape(("a", "b"), before=((1, 0),)), "before")
        both(THREE, FOUR, "names")
        both(FOUR, THREE, "names")
        both(Shape(("a",)), Shape(("a", "b")), "names")
        both(chain, Shape(("a", "b", "c", "d")), "names")

    def test_no_shape(self):
        for value in odd_values() + [(), [], "abc"]:
            if isinstance(value, Shape):
                continue
            for function in (longer_for, parted):
                for other in (THREE, FOUR, value, None):
                    told = (NoShape, {"part": "shape", "index": -1})
                    self.assertEqual(raised(lambda: function(value, other)), told)
                told = (NoShape, {"part": "other", "index": -1})
                self.assertEqual(raised(lambda: function(THREE, value)), told)

    def test_seven(self):
        shapes = [side_by_side(7, most) for most in range(1, 8)]
        for most, shape in enumerate(shapes, 1):
            for more, other in enumerate(shapes, 1):
                durations = tuple([1] * (most + 1) + [0] * (6 - most))
                self.assertEqual(longer_for(shape, other), (durations, 2, 1) if more > most else None)
                self.assertEqual(parted(shape, other) is None, most == more)
        ring = ring_of_seven()
        self.assertEqual(longer_for(ring, shapes[2]), ((1, 1, 0, 0, 0, 0, 0), 2, 1))
        self.assertIsNone(longer_for(shapes[0], shapes[0]))
        self.assertEqual(longer_for(shapes[1], ring), ((1, 0, 1, 0, 1, 0, 0), 2, 1))
        self.assertIsNone(longer_for(ring, shapes[0]))


class Idle(unittest.TestCase):
    def test_against_the_words(self):
        kinds = {}
        for shape in SHAPES:
            told = idle(shape)
            self.assertEqual(told, slow_idle(shape))
            for one in told:
                kinds[one[0]] = kinds.get(one[0], 0) + 1
        self.assertTrue(all(kinds[kind] > 5 for kind in ("machine", "worker", "skill", "ask")), kinds)

    def test_example(self):
        told = [("machine", 0), ("machine", 1), ("ask", 0, "x"), ("ask", 1, "x"), ("ask", 2, "x")]
        self.assertEqual(idle(EXAMPLE), told)

    def test_alone_means_one_at_a_time(self):
        twice = Shape(("a", "b"), machines=((1, (1, 1)), (5, (3, 3))))
        self.assertEqual(idle(twice), [("machine", 0), ("machine", 1)])
        once = Shape(("a", "b"), machines=((1, (1, 1)),))
        self.assertEqual(idle(once), [])

    def test_what_an_activity_cannot_be_served_without(self):
        shape = Shape(("a",), crew=(("x",), ("y",)), asks=((("x", 1),),))
        self.assertEqual(idle(shape), [("worker", 1), ("skill", 1, "y"), ("ask", 0, "x")])
        shape = Shape(("a",), crew=(("x",), ("x",)), asks=((("x", 2),),))
        self.assertEqual(idle(shape), [("ask", 0, "x")])
        shape = Shape(("a",), crew=(("x",), ("x", "y"), ("x",)), asks=((("x", 2),),))
        self.assertEqual(
            idle(shape),
            [("worker", 0), ("worker", 1), ("worker", 2), ("skill", 0, "x"), ("skill", 1, "x"), ("skill", 1, "y"),
             ("skill", 2, "x"), ("ask", 0, "x")],
        )

    def test_a_worker_with_two_skills_and_one_with_none(self):
        crew = (("y", "x"), (), ("x",))
        shape = Shape(("a", "b"), crew=crew, asks=((("x", 1),), (("x", 1),)))
        self.assertEqual(idle(shape), [("worker", 1), ("skill", 0, "y"), ("ask", 0, "x"), ("ask", 1, "x")])
        shape = Shape(("a", "b"), crew=crew, asks=((("x", 1),), (("y", 1), ("x", 1))))
        # a and b together ask for three workers, there are two; b alone needs one for each skill
        self.assertEqual(idle(shape), [("worker", 1), ("skill", 0, "x")])

    def test_asks_for_more_than_one(self):
        shape = Shape(("a", "b"), crew=(("x",),) * 3, asks=((("x", 2),), (("x", 2),)))
        self.assertEqual(idle(shape), [("worker", 0), ("worker", 1), ("worker", 2), ("skill", 0, "x"),
                                       ("skill", 1, "x"), ("skill", 2, "x")])
        shape = Shape(("a", "b"), crew=(("x",),) * 2, asks=((("x", 2),), (("x", 1),)))
        self.assertEqual(idle(shape), [])

    def test_the_order_of_skills_and_asks_is_as_they_stand(self):
        shape = Shape(("a",), crew=(("z", "a", "m"), ("z",), ("a",)), asks=((("z", 1), ("a", 1)),))
        told = [("worker", 0), ("worker", 1), ("worker", 2), ("skill", 0, "z"), ("skill", 0, "a"), ("skill", 0, "m"),
                ("skill", 1, "z"), ("skill", 2, "a"), ("ask", 0, "z"), ("ask", 0, "a")]
        self.assertEqual(idle(shape), told)

    def test_ordered_activities_never_go_on_together(self):
        shape = Shape(("a", "b"), before=((0, 1),), machines=((1, (1, 1)),), crew=(("x",),), asks=((("x", 1),),) * 2)
        self.assertEqual(idle(shape), [("machine", 0), ("ask", 0, "x"), ("ask", 1, "x")])

    def test_nothing_at_all(self):
        self.assertEqual(idle(Shape(("a", "b"))), [])
        self.assertEqual(idle(Shape(("a",), crew=((),))), [("worker", 0)])
        self.assertEqual(idle(Shape(("a",), asks=((),))), [])

    def test_seven(self):
        for most in range(1, 8):
            self.assertEqual(idle(side_by_side(7, most)), [("machine", 0)] if most == 7 else [])
        self.assertEqual(idle(ring_of_seven()), [])
        self.assertEqual(idle(some_shape(3, 7)), slow_idle(some_shape(3, 7)))


def alike(most):
    """The greatest shape of activities that are all alike: four machines, eight workers."""
    machines = [(most, (1,) * 7), (most, (1,) * 7), (7, (1,) * 7), (210, (30,) * 7)]
    return Shape(list("abcdefg"), machines=machines, crew=[("x",)] * 7 + [("y",)], asks=[(("x", 1),)] * 7)


def steps_of(function, shape):
    """How many lines are run by a function: unlike its time, this is the same whatever else goes on."""
    lines = []

    def note(_, event, __):
        if event == "line":
            lines.append(1)
        return note

    before = sys.gettrace()
    sys.settrace(note)
    try:
        function(shape)
    finally:
        sys.settrace(before)
    return len(lines)


class Alike(unittest.TestCase):
    def test_all_is_idle_alone(self):
        parts = [("machine", at) for at in range(4)] + [("worker", at) for at in range(8)]
        parts += [("skill", at, "x") for at in range(7)] + [("skill", 7, "y")] + [("ask", a, "x") for a in range(7)]
        for most in range(2, 7):
            self.assertEqual(idle(alike(most)), parts)

    def test_as_many_workers_as_the_machines_bear_are_enough(self):
        for most in range(2, 7):
            told = [((), workers) for workers in combinations(range(7), most)]
            self.assertEqual(enough(alike(most)), told)

    def test_with_one_and_with_all_at_a_time(self):
        self.assertEqual(idle(alike(1)), idle(alike(2)))
        self.assertEqual(enough(alike(1)), [((), (at,)) for at in range(7)])
        self.assertEqual(enough(alike(7)), [((), tuple(range(7)))])
        self.assertEqual(
            idle(alike(7)),
            [("machine", at) for at in range(4)] + [("worker", 7), ("skill", 7, "y")]
            + [("ask", a, "x") for a in range(7)],
        )

    def test_capacities_and_allowed_sets_of_them(self):
        for most in range(2, 7):
            shape = alike(most)
            self.assertEqual(capacities(shape), [(most, None), (most, None), (most, None), (30 * most, None)])
            self.assertEqual(
                allowed_sets(shape), [some for size in range(1, most + 1) for some in combinations(range(7), size)]
            )

    def test_few_steps_are_enough(self):
        # trying out all machines and workers would take some hundred thousand
        for most in range(2, 7):
            for function in (idle, enough):
                self.assertLess(steps_of(function, alike(most)), 12000)


class Enough(unittest.TestCase):
    def test_against_the_words(self):
        several = 0
        for shape in SHAPES[:64] + [some_shape(seed, 3) for seed in range(100, 200)]:
            if len(shape.crew) < 6:
                told = enough(shape)
                self.assertEqual(told, slow_enough(shape))
                several += len(told) > 1
        self.assertGreater(several, 5)

    def test_example(self):
        self.assertEqual(enough(EXAMPLE), [((), (0, 1))])

    def test_a_machine_in_the_place_of_a_worker(self):
        # with all three workers the machine forbids three at a time, with two of them it need not
        shape = Shape(("a", "b", "c"), machines=((2, (1, 1, 1)),), crew=(("x",),) * 3, asks=((("x", 1),),) * 3)
        self.assertEqual(enough(shape), [((), (0, 1)), ((), (0, 2)), ((), (1, 2))])

    def test_several_machines_that_do_as_well(self):
        shape = Shape(("a", "b", "c"), machines=((2, (1, 1, 1)), (9, (2, 2, 2)), (8, (3, 3, 3)), (5, (2, 2, 2))))
        self.assertEqual(enough(shape), [((0,), ()), ((2,), ()), ((3,), ())])
        shape = Shape(("a", "b", "c"), machines=((2, (1, 1, 1)), (1, (1, 1, 0)), (1, (0, 1, 1)), (3, (2, 2, 1))))
        self.assertEqual(enough(shape), [((1, 2), ()), ((2, 3), ())])

    def test_the_fewest_first(self):
        machines = ((1, (1, 1, 0)), (1, (0, 1, 1)), (1, (1, 0, 1)), (2, (2, 2, 2)))
        self.assertEqual(enough(Shape(("a", "b", "c"), machines=machines)), [((3,), ()), ((0, 1, 2), ())])
        self.assertEqual(enough(Shape(("a", "b", "c"), machines=machines[::-1])), [((0,), ()), ((1, 2, 3), ())])

    def test_nothing_is_enough(self):
        self.assertEqual(enough(Shape(("a", "b"))), [((), ())])
        self.assertEqual(enough(Shape(("a", "b"), crew=(("x",), ()), asks=((), ()))), [((), ())])
        self.assertEqual(enough(Shape(("a",), machines=((3, (3,)), (0, (0,))))), [((), ())])

    def test_a_worker_who_has_to_be_there_alone(self):
        shape = Shape(("a", "b"), before=((0, 1),), crew=(("x",), ("y",), ("x", "y")), asks=((("x", 1),), (("y", 1),)))
        self.assertEqual(enough(shape), [((), (2,)), ((), (0, 1))])

    def test_seven(self):
        for most in range(1, 8):
            self.assertEqual(enough(side_by_side(7, most)), [((0,) if most < 7 else (), ())])
        self.assertEqual(enough(ring_of_seven()), [((0, 1, 2), (0, 1, 2, 3))])

    def test_as_many_as_there_may_be(self):
        skills = ("p", "q", "r", "s", "t")
        asks = tuple(tuple((skills[(a + k) % 5], 1 + (a + k) % 2) for k in range(3)) for a in range(7))
        machines = tuple((9, tuple(k * a % 4 for a in range(7))) for k in range(1, 5))
        shape = Shape(tuple("abcdefg"), machines=machines, crew=(skills,) * 8, asks=asks)
        told = enough(shape)
        whole = allowed(shape)
        for used, workers in told:
            kept = {"machines": [machines[at] for at in used], "crew": [skills for _ in workers]}
            self.assertEqual(allowed(Loose(shape, **kept)), whole)
        self.assertEqual(told, sorted(told, key=lambda pair: (len(pair[0]) + len(pair[1]), pair)))


class Capacities(unittest.TestCase):
    def test_against_shapes_with_other_capacities(self):
        seen = set()
        for shape in SHAPES:
            told = capacities(shape)
            self.assertEqual(len(told), len(shape.machines))
            for at, (least, greatest) in enumerate(told):
                most = sum(shape.machines[at][1]) + 3
                good = [capacity for capacity in range(most + 1) if is_same_with(shape, at, capacity)]
                self.assertEqual(good, list(range(least, (most if greatest is None else greatest) + 1)))
                self.assertLessEqual(least, shape.machines[at][0])
                self.assertTrue(greatest is None or greatest >= shape.machines[at][0])
                demands = shape.machines[at][1]
                seen.add((greatest is None, least == max(demands), least == shape.machines[at][0]))
        self.assertGreater(len(seen), 4)

    def test_example(self):
        self.assertEqual(capacities(EXAMPLE), [(2, None), (5, None)])

    def test_a_greatest_one(self):
        self.assertEqual(capacities(THREE), [(2, 2)])
        self.assertEqual(capacities(Shape(("a", "b"), machines=((7, (5, 5)),))), [(5, 9)])
        self.assertEqual(capacities(Shape(("a", "b", "c"), machines=((8, (1, 7, 3)),))), [(8, 9)])
        self.assertEqual(capacities(FOUR), [(2, None)])

    def test_beyond_the_capacities_that_a_shape_may_have(self):
        shape = Shape(("a", "b", "c"), machines=((1000, (999, 998, 1)),))
        self.assertEqual(capacities(shape), [(1000, 1996)])
        shape = Shape(("a", "b", "c"), machines=((1000, (1000, 1000, 1000)), (1, (1, 1, 1))))
        self.assertEqual(capacities(shape), [(1000, None), (1, None)])
        self.assertEqual(capacities(Shape(("a", "b"), machines=((1000, (1000, 1000)),))), [(1000, 1999)])

    def test_a_machine_that_never_matters(self):
        self.assertEqual(capacities(Shape(("a", "b"), machines=((9, (0, 0)), (9, (4, 5))))), [(0, None), (9, None)])
        self.assertEqual(capacities(Shape(("a", "b"), before=((0, 1),), machines=((9, (4, 3)),))), [(4, None)])

    def test_two_machines_each_of_which_would_do(self):
        self.assertEqual(capacities(Shape(("a", "b"), machines=((1, (1, 1)), (3, (3, 2))))), [(1, None), (3, None)])

    def test_no_machines(self):
        self.assertEqual(capacities(Shape(("a", "b"))), [])

    def test_seven(self):
        for most in range(1, 8):
            self.assertEqual(capacities(side_by_side(7, most)), [(most, most if most < 7 else None)])
        self.assertEqual(capacities(ring_of_seven()), [(1, 1)] * 3)


class Shapes(unittest.TestCase):
    def test_no_shape(self):
        for value in odd_values() + [(), [], "abc"]:
            if not isinstance(value, Shape):
                for function in (idle, enough, capacities):
                    self.assertEqual(raised(lambda: function(value)), (NoShape, {"part": "shape", "index": -1}))

    def test_what_is_left_out_here_is_checked_by_the_slow_ways(self):
        for shape in SHAPES[:20]:
            self.assertEqual(allowed_sets(shape), allowed(shape))
            free = [some for some in free_sets(shape) if not is_forbidden(shape, some)]
            self.assertEqual(free, allowed(shape))


if __name__ == "__main__":
    unittest.main()
