"""[4]: what is promised for all durations, and [1]: what numbers are told as."""

import random
import unittest

from crewlags.bounds import best_bound, heaviest, too_heavy
from crewlags.graphs import graph_fault, least_graphs
from crewlags.lengths import growth, least_time, slack, time_of
from crewlags.schedules import earliest, length_of
from crewlags.shapes import Shape, allowed_sets
from tests.support import (
    THREE, every_graph, every_order, fraction, orders_of, side_by_side, some_durations, some_shape,
)

ORDERS = {many: every_order(many) for many in (3, 4)}


class AllDurations(unittest.TestCase):
    def test_no_order_that_resolves_is_shorter_than_the_best_least_graph(self):
        rnd = random.Random(1)
        for many in (3, 4):
            for seed in range(15):
                shape = some_shape(seed, many)
                durations = some_durations(rnd, many)
                least = fraction(least_time(shape, durations)[0])
                times = []
                for order in orders_of(shape, ORDERS[many]):
                    pairs = sorted({(min(pair), max(pair)) for pair in order})
                    if graph_fault(shape, pairs) is None:
                        times.append(fraction(length_of(durations, earliest(shape, order, durations))))
                self.assertEqual(min(times), least)

    def test_each_least_graph_is_the_only_best_one_for_some_durations_or_as_good_as_others(self):
        for seed in range(15):
            shape = some_shape(seed, 4)
            graphs = least_graphs(shape)
            for one in graphs:
                for other in graphs:
                    longer = [pair for pair in one if pair not in other]
                    self.assertEqual(not longer, one == other)

    def test_graphs_with_one_time_for_all_durations_have_the_same_pairs(self):
        shape = Shape(("a", "b", "c"))
        corners = [(x, y, z) for x in (0, 1) for y in (0, 1) for z in (0, 1)]
        for one in every_graph(3):
            for other in every_graph(3):
                alike = all(time_of(shape, one, told)[0] == time_of(shape, other, told)[0] for told in corners)
                self.assertEqual(alike, one == other)

    def test_weights_bound_just_if_no_allowed_set_is_too_heavy(self):
        rnd = random.Random(2)
        for seed in range(40):
            shape = some_shape(seed, 4)
            weights = tuple(rnd.choice((0, (1, 3), (1, 2), (2, 3), 1)) for _ in range(4))
            heavy = too_heavy(shape, weights)
            self.assertEqual(heavy is not None, fraction(heaviest(shape, weights)) > 1)
            for some in allowed_sets(shape):
                durations = tuple(1 if a in some else 0 for a in range(4))
                told = sum(fraction(one) * length for one, length in zip(weights, durations))
                self.assertEqual(least_time(shape, durations)[0], 1)
                if heavy is None:
                    self.assertLessEqual(told, 1)

    def test_shapes_with_the_same_allowed_sets_are_alike(self):
        rnd = random.Random(3)
        worker = (("x",), ("x",))
        ask = (("x", 1),)
        others = [
            (THREE, Shape(("a", "b", "c"), crew=worker, asks=(ask,) * 3)),
            (THREE, Shape(("p", "q", "r"), machines=((9, (3, 4, 3)),))),
            (side_by_side(4, 1), Shape(tuple("abcd"), machines=((5, (3, 3, 3, 3)), (2, (2, 2, 2, 2))))),
        ]
        for one, other in others:
            self.assertEqual(allowed_sets(one), allowed_sets(other))
            self.assertEqual(least_graphs(one), least_graphs(other))
            for _ in range(10):
                durations = some_durations(rnd, len(one.names))
                self.assertEqual(least_time(one, durations), least_time(other, durations))

    def test_shapes_with_other_allowed_sets_are_not_alike(self):
        shapes = [some_shape(seed, 4) for seed in range(60)]
        shapes = [shape for shape in shapes if not shape.before]
        apart = 0
        for one in shapes[:15]:
            for other in shapes[:15]:
                for some in allowed_sets(one):
                    if some not in allowed_sets(other):
                        durations = tuple(1 if a in some else 0 for a in range(4))
                        self.assertEqual(least_time(one, durations)[0], 1)
                        self.assertGreater(least_time(other, durations)[0], 1)
                        apart += 1
                        break
        self.assertGreater(apart, 20)


class Numbers(unittest.TestCase):
    def test_integers_where_the_value_is_whole(self):
        halves = ((1, 2), (1, 2), (1, 2))
        for value in (
            least_time(side_by_side(3, 1), ((1, 2), (1, 2), 1))[0], least_time(THREE, halves)[0],
            slack(THREE, ((1, 2), 2, (1, 2)), 0), heaviest(THREE, halves), best_bound(THREE, ((4, 3),) * 3)[0],
            length_of(halves, halves), time_of(THREE, [(0, 1)], halves)[0],
        ):
            self.assertIs(type(value), int)
        for value in best_bound(THREE, (5, 0, 0))[1]:
            self.assertIs(type(value), int)
        for start, time, slope in growth(THREE, ((1, 2), (1, 2), (3, 2)), 0)[1:]:
            self.assertIs(type(slope), int)
            fraction(start)
            fraction(time)

    def test_fractions_in_lowest_terms(self):
        self.assertEqual(length_of(((1, 6), (1, 4)), ((1, 6), (1, 12))), (1, 3))
        self.assertEqual(heaviest(THREE, ((1, 6), (1, 6), (1, 6))), (1, 3))
        self.assertEqual(best_bound(THREE, ((1, 6), (1, 6), (1, 6)))[0], (1, 4))
        self.assertEqual(growth(THREE, (0, (1, 6), (1, 3)), 0)[0], (0, (1, 3), 0))

    def test_equal_values_are_equal_however_they_are_scaled(self):
        self.assertEqual(least_time(THREE, ((1, 2), (1, 3), (1, 5)))[0], (8, 15))
        self.assertEqual(least_time(THREE, (15, 10, 6))[0], 16)


if __name__ == "__main__":
    unittest.main()
