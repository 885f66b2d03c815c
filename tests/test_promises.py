"""[4]: what is promised for all durations, and for one project; [1]: what numbers are told as."""

import random
import unittest

from crewlags.beside import parted
from crewlags.bounds import best_bound, heaviest, too_heavy
from crewlags.counts import count_plans
from crewlags.front import cheapest, shortest, trade_offs
from crewlags.graphs import graph_fault, least_graphs
from crewlags.lengths import growth, least_time, longer_at, slack, time_of
from crewlags.mixes import against, blind, worst_mix
from crewlags.papers import flaw, paper_of
from crewlags.plans import plan_ends
from crewlags.projects import Project, shape_of
from crewlags.repairs import fewest_moved, good_row, must_move, spans
from crewlags.rotas import check_rota, rota
from crewlags.schedules import earliest, length_of
from crewlags.shapes import Shape, allowed_sets
from crewlags.steady import steadiest, worst
from tests.project_support import drawn, every_choice
from tests.support import (
    THREE, every_graph, every_order, fraction, orders_of, side_by_side, some_durations, some_shape,
)

ORDERS = {many: every_order(many) for many in (3, 4)}


class AllDurations(unittest.TestCase):
    def test_no_order_that_resolves_is_shorter_than_the_best_least_graph(self):
        rnd = random.Random(1)
        for many in (3, 4):
            for seed in range(15):
                shape = some_shape(seed, many)
                durations = some_durations(rnd, many)
                least = fraction(least_time(shape, durations)[0])
                times = []
                for order in orders_of(shape, ORDERS[many]):
                    pairs = sorted({(min(pair), max(pair)) for pair in order})
                    if graph_fault(shape, pairs) is None:
                        times.append(fraction(length_of(durations, earliest(shape, order, durations))))
                self.assertEqual(min(times), least)

    def test_each_least_graph_is_the_only_best_one_for_some_durations_or_as_good_as_others(self):
        for seed in range(15):
            shape = some_shape(seed, 4)
            graphs = least_graphs(shape)
            for one in graphs:
                for other in graphs:
                    longer = [pair for pair in one if pair not in other]
                    self.assertEqual(not longer, one == other)

    def test_graphs_with_one_time_for_all_durations_have_the_same_pairs(self):
        shape = Shape(("a", "b", "c"))
        corners = [(x, y, z) for x in (0, 1) for y in (0, 1) for z in (0, 1)]
        for one in every_graph(3):
            for other in every_graph(3):
                alike = all(time_of(shape, one, told)[0] == time_of(shape, other, told)[0] for told in corners)
                self.assertEqual(alike, one == other)

    def test_weights_bound_just_if_no_allowed_set_is_too_heavy(self):
        rnd = random.Random(2)
        for seed in range(40):
            shape = some_shape(seed, 4)
            weights = tuple(rnd.choice((0, (1, 3), (1, 2), (2, 3), 1)) for _ in range(4))
            heavy = too_heavy(shape, weights)
            self.assertEqual(heavy is not None, fraction(heaviest(shape, weights)) > 1)
            for some in allowed_sets(shape):
                durations = tuple(1 if a in some else 0 for a in range(4))
                told = sum(fraction(one) * length for one, length in zip(weights, durations))
                self.assertEqual(least_time(shape, durations)[0], 1)
                if heavy is None:
                    self.assertLessEqual(told, 1)

    def test_one_graph_is_never_longer_just_if_its_pairs_are_among_those_of_the_other(self):
        rnd = random.Random(6)
        graphs = every_graph(3)
        for one in graphs:
            for other in graphs:
                told = longer_at(THREE, one, other)
                self.assertEqual(told is None, set(one) <= set(other))
                if told is not None:
                    self.assertGreater(time_of(THREE, one, told)[0], time_of(THREE, other, told)[0])
                    continue
                for _ in range(5):
                    durations = some_durations(rnd, 3)
                    times = [fraction(time_of(THREE, graph, durations)[0]) for graph in (one, other)]
                    self.assertLessEqual(times[0], times[1])

    def test_the_greatest_factor_is_an_integer_and_chance_does_no_worse(self):
        for seed in range(25):
            shape = some_shape(seed, 4)
            factor, graph = steadiest(shape)
            self.assertIs(type(factor), int)
            self.assertEqual(worst(shape, graph)[0], factor)
            mean, mix, sets = blind(shape)
            self.assertLessEqual(fraction(mean), factor)
            self.assertEqual((worst_mix(shape, mix)[0], against(shape, sets)[0]), (mean, mean))

    def test_shapes_are_parted_just_if_they_have_other_allowed_sets(self):
        shapes = [shape for shape in (some_shape(seed, 3) for seed in range(60)) if not shape.before][:15]
        for one in shapes:
            for other in shapes:
                self.assertEqual(parted(one, other) is None, allowed_sets(one) == allowed_sets(other))

    def test_shapes_with_the_same_allowed_sets_are_alike(self):
        rnd = random.Random(3)
        worker = (("x",), ("x",))
        ask = (("x", 1),)
        others = [
            (THREE, Shape(("a", "b", "c"), crew=worker, asks=(ask,) * 3)),
            (THREE, Shape(("p", "q", "r"), machines=((9, (3, 4, 3)),))),
            (side_by_side(4, 1), Shape(tuple("abcd"), machines=((5, (3, 3, 3, 3)), (2, (2, 2, 2, 2))))),
        ]
        for one, other in others:
            self.assertEqual(allowed_sets(one), allowed_sets(other))
            self.assertEqual(least_graphs(one), least_graphs(other))
            for _ in range(10):
                durations = some_durations(rnd, len(one.names))
                self.assertEqual(least_time(one, durations), least_time(other, durations))

    def test_shapes_with_other_allowed_sets_are_not_alike(self):
        shapes = [some_shape(seed, 4) for seed in range(60)]
        shapes = [shape for shape in shapes if not shape.before]
        apart = 0
        for one in shapes[:15]:
            for other in shapes[:15]:
                for some in allowed_sets(one):
                    if some not in allowed_sets(other):
                        durations = tuple(1 if a in some else 0 for a in range(4))
                        self.assertEqual(least_time(one, durations)[0], 1)
                        self.assertGreater(least_time(other, durations)[0], 1)
                        apart += 1
                        break
        self.assertGreater(apart, 20)


class OneProject(unittest.TestCase):
    """For one project: its trade-offs, a paper whenever there is no plan as short, and what moves in every plan."""

    def test_there_is_a_paper_just_if_there_is_no_plan_as_short(self):
        for seed in range(150):
            project = drawn(seed)
            best = shortest(project)
            for most in range(project.horizon + 2):
                paper = paper_of(project, most)
                self.assertEqual(paper is None, best is not None and best[0] <= most)
                self.assertEqual(paper is None, cheapest(project, most=most) is not None)
                self.assertEqual(paper is None, sum(count_plans(project, told, most=most) for told in every_choice(project)) > 0)
                if paper is not None:
                    self.assertIsNone(flaw(project, most, paper))

    def test_the_trade_offs_are_reached_by_good_rows_and_by_nothing_shorter(self):
        for seed in range(150):
            project = drawn(seed)
            for (time, cost, _), choice, starts in trade_offs(project):
                self.assertEqual(good_row(project, choice, fixed=list(enumerate(starts))), starts)
                self.assertEqual(fewest_moved(project, choice, starts), ((), starts))
                self.assertEqual(must_move(project, choice, starts), ())
                self.assertEqual(max(plan_ends(project, choice, starts)), time)
                self.assertGreaterEqual(time, spans(project, choice)[0])
                self.assertLessEqual(shortest(project, cost=cost)[0], time)
                self.assertLessEqual(cheapest(project, most=time)[0], cost)
                self.assertIsNone(paper_of(project, time))

    def test_what_moves_in_every_plan(self):
        rnd = random.Random(4)
        moving = 0
        for seed in range(150):
            project = drawn(seed)
            for choice in every_choice(project):
                starts = tuple(rnd.randint(0, 6) for _ in choice)
                told = must_move(project, choice, starts)
                self.assertEqual(told is None, count_plans(project, choice) == 0)
                for a, start in enumerate(starts):
                    alone = good_row(project, choice, fixed=[(a, start)])
                    if told is not None:
                        self.assertEqual(a in told, alone is None)
                        moving += alone is None
        self.assertGreater(moving, 30)

    def test_a_rota_for_each_plan_that_is_told(self):
        served = 0
        for seed in range(150):
            project = drawn(seed)
            for _, choice, starts in trade_offs(project):
                shifts = rota(project, choice, starts)
                self.assertIsNone(check_rota(project, choice, starts, shifts))
                served += bool(shifts)
        self.assertGreater(served, 20)

    def test_a_project_without_anything_is_as_its_shape(self):
        # the least time of the shape of a choice is that of the project, if nothing else is told
        rnd = random.Random(5)
        for _ in range(60):
            many, machines = rnd.randint(1, 4), tuple(rnd.randint(1, 4) for _ in range(rnd.randint(1, 2)))
            modes = tuple(
                ((rnd.randint(0, 6), tuple(rnd.randint(0, capacity) for capacity in machines), (), 0),) for _ in range(many)
            )
            project = Project(tuple("abcd"[:many]), 40, machines, (), modes)
            works = tuple(mode[0][0] for mode in modes)
            least = least_time(shape_of(project, (0,) * many), works)[0]
            self.assertEqual(shortest(project)[0], least)
            self.assertEqual(spans(project, (0,) * many)[0], least)
            if least:
                self.assertIsNone(flaw(project, least - 1, paper_of(project, least - 1)))


class Numbers(unittest.TestCase):
    def test_integers_where_the_value_is_whole(self):
        halves = ((1, 2), (1, 2), (1, 2))
        for value in (
            least_time(side_by_side(3, 1), ((1, 2), (1, 2), 1))[0], least_time(THREE, halves)[0],
            slack(THREE, ((1, 2), 2, (1, 2)), 0), heaviest(THREE, halves), best_bound(THREE, ((4, 3),) * 3)[0],
            length_of(halves, halves), time_of(THREE, [(0, 1)], halves)[0],
        ):
            self.assertIs(type(value), int)
        for value in best_bound(THREE, (5, 0, 0))[1]:
            self.assertIs(type(value), int)
        for start, time, slope in growth(THREE, ((1, 2), (1, 2), (3, 2)), 0)[1:]:
            self.assertIs(type(slope), int)
            fraction(start)
            fraction(time)

    def test_fractions_in_lowest_terms(self):
        self.assertEqual(length_of(((1, 6), (1, 4)), ((1, 6), (1, 12))), (1, 3))
        self.assertEqual(heaviest(THREE, ((1, 6), (1, 6), (1, 6))), (1, 3))
        self.assertEqual(best_bound(THREE, ((1, 6), (1, 6), (1, 6)))[0], (1, 4))
        self.assertEqual(growth(THREE, (0, (1, 6), (1, 3)), 0)[0], (0, (1, 3), 0))

    def test_equal_values_are_equal_however_they_are_scaled(self):
        self.assertEqual(least_time(THREE, ((1, 2), (1, 3), (1, 5)))[0], (8, 15))
        self.assertEqual(least_time(THREE, (15, 10, 6))[0], 16)


if __name__ == "__main__":
    unittest.main()
