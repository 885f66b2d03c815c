"""[7], [8]: which sets are forbidden, which are allowed."""

import unittest
from itertools import combinations

from crewlags.errors import NoSet
from crewlags.shapes import Shape, allowed_sets, excess, greatest_allowed, least_forbidden
from tests.support import (
    FOUR, THREE, allowed, closure, every_set, fields, forbidden_sets, is_forbidden, is_free, odd_values, ring_of_seven,
    side_by_side, some_shape,
)

SHAPES = [some_shape(seed, many) for many in (1, 2, 3, 4, 5) for seed in range(40)]


def told_excess(shape, some):
    """What excess has to tell, by the words of the document."""
    for at, (capacity, demands) in enumerate(shape.machines):
        if sum(demands[a] for a in some) > capacity:
            return "machine", at
    names = {skill for worker in shape.crew for skill in worker} | {skill for ask in shape.asks for skill, _ in ask}
    for size in range(len(names) + 1):
        for skills in combinations(sorted(names), size):
            wanted = sum(many for a in some if shape.asks for skill, many in shape.asks[a] if skill in skills)
            if wanted > sum(1 for worker in shape.crew if set(worker) & set(skills)):
                return "crew", skills
    return None


class Excess(unittest.TestCase):
    def test_all_sets_of_many_shapes(self):
        kinds = set()
        for shape in SHAPES:
            for some in [()] + every_set(len(shape.names)):
                told = excess(shape, some)
                self.assertEqual(told, told_excess(shape, some))
                self.assertEqual(told is not None, is_forbidden(shape, some))
                kinds.add(None if told is None else (told[0], len(told[1]) if told[0] == "crew" else told[1]))
        # the shapes show both kinds, later machines, and sets of several skills
        self.assertLessEqual({None, ("machine", 0), ("machine", 1), ("crew", 1), ("crew", 2)}, kinds)

    def test_nothing_is_not_forbidden(self):
        for shape in SHAPES:
            self.assertIsNone(excess(shape, ()))

    def test_the_first_machine_of_several(self):
        shape = Shape(("a", "b"), machines=((4, (2, 2)), (3, (2, 2)), (1, (1, 1))))
        self.assertEqual(excess(shape, (0, 1)), ("machine", 1))
        self.assertIsNone(excess(shape, (0,)))

    def test_a_machine_comes_ahead_of_the_crew(self):
        shape = Shape(("a", "b"), machines=((1, (1, 1)),), crew=(("x",),), asks=((("x", 1),), (("x", 1),)))
        self.assertEqual(excess(shape, (0, 1)), ("machine", 0))

    def test_just_the_capacity_is_not_too_much(self):
        shape = Shape(("a", "b", "c"), machines=((1000, (500, 500, 1)),))
        self.assertIsNone(excess(shape, (0, 1)))
        self.assertEqual(excess(shape, (0, 1, 2)), ("machine", 0))

    def test_fewest_skills_and_of_these_the_first(self):
        crew = (("x", "y"), ("y", "z"), ("u",))
        asks = ((("x", 1),), (("y", 1),), (("z", 1),), (("u", 1),), (("u", 1), ("x", 1)))
        shape = Shape(tuple("abcde"), crew=crew, asks=asks)
        self.assertIsNone(excess(shape, (0, 1, 3)))
        self.assertEqual(excess(shape, (0, 1, 2)), ("crew", ("x", "y", "z")))
        self.assertEqual(excess(shape, (0, 1, 2, 4)), ("crew", ("x",)))
        self.assertEqual(excess(shape, (3, 4)), ("crew", ("u",)))
        self.assertEqual(excess(shape, (0, 3, 4)), ("crew", ("u",)))
        self.assertEqual(excess(shape, (0, 4)), ("crew", ("x",)))

    def test_a_worker_with_several_skills_serves_one_at_a_time(self):
        shape = Shape(("a", "b"), crew=(("x", "y"), ("y",)), asks=((("x", 1),), (("y", 1),)))
        self.assertIsNone(excess(shape, (0, 1)))
        shape = Shape(("a", "b"), crew=(("x", "y"),), asks=((("y", 1),), (("x", 1),)))
        self.assertEqual(excess(shape, (0, 1)), ("crew", ("x", "y")))

    def test_ordered_activities_count_as_others(self):
        self.assertEqual(excess(Shape(("a", "b"), before=((0, 1),), machines=((1, (1, 1)),)), (0, 1)), ("machine", 0))

    def test_what_is_no_set(self):
        wrong = odd_values() + [
            [], [0], [0, 1], (1, 0), (0, 0), (0, 1, 1), (2, 1, 0), (True,), (0, True), (False,), (4,), (0, 4), (-1,),
            (-1, 0), (0, None), ("0",), ((0,),), (0, (1,)), (0, []), "01", b"\x00", {0: 1}, (0, 1, 2, 3, 4), (10 ** 30,),
        ]
        for value in wrong:
            with self.assertRaises(NoSet) as caught:
                excess(FOUR, value)
            self.assertEqual(list(vars(caught.exception)), ["some"])
            self.assertIs(caught.exception.some, value)
        self.assertIsNone(excess(FOUR, (3,)))
        with self.assertRaises(NoSet) as caught:
            excess(THREE, (3,))
        self.assertEqual(fields(caught.exception), {"some": (3,)})

    def test_example(self):
        self.assertEqual(excess(FOUR, (1, 2)), ("crew", ("lift", "weld")))


class Lists(unittest.TestCase):
    def test_allowed_sets(self):
        for shape in SHAPES:
            self.assertEqual(allowed_sets(shape), allowed(shape))

    def test_greatest_allowed(self):
        for shape in SHAPES:
            sets = allowed(shape)
            greatest = [some for some in sets if not any(set(some) < set(other) for other in sets)]
            self.assertEqual(greatest_allowed(shape), greatest)

    def test_least_forbidden(self):
        for shape in SHAPES:
            ahead = closure(shape.before)
            forbidden = forbidden_sets(shape)
            least = [
                some for some in forbidden
                if is_free(some, ahead) and not any(set(other) < set(some) for other in forbidden)
            ]
            self.assertEqual(least_forbidden(shape), least)

    def test_allowed_just_if_no_least_forbidden_set_is_a_part(self):
        for shape in SHAPES:
            ahead = closure(shape.before)
            least = least_forbidden(shape)
            sets = [
                some for some in every_set(len(shape.names))
                if is_free(some, ahead) and not any(set(part) <= set(some) for part in least)
            ]
            self.assertEqual(allowed_sets(shape), sets)

    def test_one_activity_alone_is_always_allowed(self):
        for shape in SHAPES:
            many = len(shape.names)
            self.assertEqual(allowed_sets(shape)[:many], [(a,) for a in range(many)])

    def test_ordered_over_others(self):
        shape = Shape(tuple("abcd"), before=((2, 1), (1, 0)))
        self.assertEqual(allowed_sets(shape), [(0,), (1,), (2,), (3,), (0, 3), (1, 3), (2, 3)])
        self.assertEqual(least_forbidden(shape), [])
        self.assertEqual(greatest_allowed(shape), [(0, 3), (1, 3), (2, 3)])

    def test_greatest_have_the_fewest_members_first(self):
        shape = Shape(tuple("abcd"), machines=((3, (1, 3, 1, 1)),))
        self.assertEqual(greatest_allowed(shape), [(1,), (0, 2, 3)])

    def test_a_capacity_of_0_with_demands_of_0(self):
        shape = Shape(("a", "b", "c"), machines=((0, (0, 0, 0)),))
        self.assertEqual(allowed_sets(shape), every_set(3))
        self.assertEqual(greatest_allowed(shape), [(0, 1, 2)])
        self.assertEqual(least_forbidden(shape), [])

    def test_a_crew_of_none(self):
        for asks in ((), ((), ())):
            shape = Shape(("a", "b"), crew=(), asks=asks)
            self.assertEqual(allowed_sets(shape), [(0,), (1,), (0, 1)])
        shape = Shape(("a", "b"), crew=((), ()), asks=((), ()))
        self.assertEqual(allowed_sets(shape), [(0,), (1,), (0, 1)])

    def test_a_crew_of_whom_nothing_is_asked(self):
        self.assertEqual(allowed_sets(Shape(("a", "b"), crew=(("x",),))), [(0,), (1,), (0, 1)])

    def test_seven(self):
        for most in range(1, 8):
            sets = [some for some in every_set(7) if len(some) <= most]
            self.assertEqual(allowed_sets(side_by_side(7, most)), sets)
            self.assertEqual(greatest_allowed(side_by_side(7, most)), [some for some in sets if len(some) == most])
            least = [some for some in every_set(7) if len(some) == most + 1]
            self.assertEqual(least_forbidden(side_by_side(7, most)), least)

    def test_seven_in_a_ring(self):
        ring = [(0, 1), (0, 6), (1, 2), (2, 3), (3, 4), (4, 5), (5, 6)]
        self.assertEqual(least_forbidden(ring_of_seven()), ring)
        sets = [some for some in every_set(7) if not any(set(pair) <= set(some) for pair in ring)]
        self.assertEqual(allowed_sets(ring_of_seven()), sets)
        self.assertEqual(greatest_allowed(ring_of_seven()), [
            (0, 2, 4), (0, 2, 5), (0, 3, 5), (1, 3, 5), (1, 3, 6), (1, 4, 6), (2, 4, 6),
        ])

    def test_example(self):
        self.assertEqual(allowed_sets(FOUR), [(0,), (1,), (2,), (3,), (0, 2), (0, 3), (1, 3)])
        self.assertEqual(least_forbidden(FOUR), [(1, 2), (2, 3)])
        self.assertEqual(greatest_allowed(FOUR), [(0, 2), (0, 3), (1, 3)])


if __name__ == "__main__":
    unittest.main()
