"""[14]: least graphs, and which pairs are in them."""

import random
import unittest
from itertools import combinations

from crewlags.graphs import graph_fault, idle_pairs, least_graphs, least_within, orient, sure_pairs, single
from crewlags.shapes import Shape, least_forbidden
from tests.support import (
    FOUR, THREE, all_least, closure, every_graph, every_order, every_pair, is_forbidden, is_free, resolving_graphs,
    ring_of_seven, side_by_side, some_shape,
)

ORDERS = {many: every_order(many) for many in (1, 2, 3, 4, 5)}
SHAPES = [some_shape(seed, many) for many in (1, 2, 3, 4) for seed in range(40)]
SHAPES += [some_shape(seed, 5) for seed in range(8)]


def groups(many, most):
    """The least graphs in which so many activities fall into just so many groups."""
    rows = [[]]
    for _ in range(many):
        rows = [row + [group] for row in rows for group in range(max(row, default=-1) + 2)]
    told = [
        [(a, b) for a, b in every_pair(many) if row[a] == row[b]]
        for row in rows if len(set(row)) == most
    ]
    return sorted(told, key=lambda pairs: (len(pairs), pairs))


def shown(pairs):
    """A graph, each pair as two figures."""
    return " ".join(f"{a}{b}" for a, b in pairs)


class LeastGraphs(unittest.TestCase):
    def test_small_shapes_against_all_graphs(self):
        numbers = set()
        for shape in SHAPES:
            least = all_least(shape, ORDERS[len(shape.names)])
            self.assertEqual(least_graphs(shape), least)
            numbers.add(len(least))
        self.assertLessEqual({1, 3, 5}, numbers)
        self.assertGreater(max(numbers), 6)

    def test_each_is_the_graph_of_an_order_that_resolves(self):
        for shape in SHAPES + [some_shape(seed, 6) for seed in range(12)] + [some_shape(seed, 7) for seed in range(4)]:
            told = least_graphs(shape)
            self.assertGreaterEqual(len(told), 1)
            self.assertEqual(told, sorted(told, key=lambda pairs: (len(pairs), pairs)))
            for pairs in told:
                self.assertIsNone(graph_fault(shape, pairs))
                self.assertEqual(pairs, sorted(pairs))
            for one, other in combinations([set(pairs) for pairs in told[:60]], 2):
                self.assertFalse(one <= other or other <= one)

    def test_one_activity(self):
        shape = Shape(("a",), machines=((1, (1,)),), crew=(("x",),), asks=((("x", 1),),))
        self.assertEqual(least_graphs(shape), [[]])
        self.assertEqual(least_within(shape, []), [])
        self.assertEqual(sure_pairs(shape), [])
        self.assertEqual(idle_pairs(shape), [])
        self.assertEqual(single(shape), ("graph", []))

    def test_any_so_many_side_by_side(self):
        for many in range(1, 7):
            for most in range(1, many + 1):
                self.assertEqual(least_graphs(side_by_side(many, most)), groups(many, most))

    def test_any_so_many_of_seven_side_by_side(self):
        for most, number in ((1, 1), (2, 63), (3, 301), (4, 350), (5, 140), (6, 21), (7, 1)):
            told = least_graphs(side_by_side(7, most))
            self.assertEqual(len(told), number)
            self.assertEqual(told, groups(7, most))

    def test_seven_of_which_nothing_or_all_may_go_side_by_side(self):
        self.assertEqual(least_graphs(side_by_side(7, 1)), [every_pair(7)])
        self.assertEqual(least_graphs(Shape(tuple("abcdefg"))), [[]])
        self.assertEqual(least_graphs(Shape(tuple("abcdefg"), machines=((0, (0,) * 7),))), [[]])
        row = Shape(tuple("abcdefg"), before=[(6, 5), (5, 4), (4, 3), (3, 2), (2, 1), (1, 0)])
        self.assertEqual(least_graphs(row), [every_pair(7)])
        self.assertEqual(orient(row, every_pair(7)), sorted(pair[::-1] for pair in every_pair(7)))

    def test_seven_in_a_ring(self):
        ring = [(0, 1), (0, 6), (1, 2), (2, 3), (3, 4), (4, 5), (5, 6)]
        told = least_graphs(ring_of_seven())
        # a ring of seven is the graph of no order, one with a pair of second neighbours is
        skips = [sorted(ring + [tuple(sorted((a, (a + 2) % 7)))]) for a in range(7)]
        self.assertEqual(told, sorted(skips))

    def test_something_ahead_among_what_may_not_go_together(self):
        shape = Shape(tuple("abcd"), before=((3, 0),), machines=((2, (1, 1, 1, 1)),))
        self.assertEqual(least_graphs(shape), all_least(shape, ORDERS[4]))
        for pairs in least_graphs(shape):
            self.assertIn((0, 3), pairs)

    def test_pairs_that_come_in_because_of_what_goes_ahead(self):
        machines = ((3, (1, 0, 1, 3, 2, 0)), (7, (2, 3, 1, 3, 0, 2)))
        shape = Shape(tuple("abcdef"), before=((1, 3), (2, 5), (3, 4)), machines=machines)
        self.assertEqual([shown(pairs) for pairs in least_graphs(shape)], [
            "03 04 13 14 23 24 25 34", "01 02 03 13 14 23 24 25 34", "01 02 03 12 13 14 15 23 25 34 35",
            "01 03 04 12 13 14 15 23 25 34 35", "01 03 12 13 14 15 23 24 25 34 35",
            "02 03 04 05 12 13 14 15 23 25 34 35",
        ])
        before = ((1, 0), (1, 4), (0, 3), (4, 5))
        shape = Shape(tuple("abcdefg"), before=before, machines=((3, (3, 2, 1, 2, 1, 0, 2)),))
        self.assertEqual([shown(pairs) for pairs in least_graphs(shape)], [
            "01 02 03 04 05 06 12 13 14 15 16 24 36 45", "01 02 03 04 06 13 14 15 16 23 26 34 36 45",
            "01 02 03 04 06 13 14 15 16 23 34 36 45 46", "01 02 03 04 05 06 12 13 14 15 16 23 26 36 45",
            "01 02 03 04 05 06 12 13 14 15 16 23 36 45 46", "01 02 03 04 05 06 12 13 14 15 16 26 34 36 45",
            "01 02 03 04 05 06 12 13 14 15 16 34 36 45 46", "01 02 03 04 06 12 13 14 15 16 23 24 34 36 45",
            "01 02 03 04 06 12 13 14 15 16 24 26 34 36 45", "01 02 03 04 06 12 13 14 15 16 24 34 36 45 46",
            "01 02 03 04 06 13 14 15 16 23 24 25 34 36 45", "01 02 03 04 05 06 13 14 15 16 23 24 25 26 36 45",
            "01 02 03 04 05 06 13 14 15 16 23 24 25 36 45 46 56",
        ])

    def test_example(self):
        self.assertEqual(least_graphs(THREE), [[(0, 1)], [(0, 2)], [(1, 2)]])


class LeastWithin(unittest.TestCase):
    def test_all_graphs_of_small_shapes(self):
        found = set()
        for shape in SHAPES[:120]:
            least = all_least(shape, ORDERS[len(shape.names)])
            for pairs in every_graph(len(shape.names)):
                told = least_within(shape, pairs)
                wanted = [one for one in least if set(one) <= set(pairs)]
                self.assertEqual(told, wanted[0] if wanted else None)
                found.add(len(wanted))
        self.assertLessEqual({0, 1, 2, 3}, found)

    def test_in_any_order_of_its_pairs(self):
        self.assertEqual(least_within(THREE, [(1, 2), (0, 2)]), [(0, 2)])
        self.assertEqual(least_within(THREE, ((1, 2),)), [(1, 2)])
        self.assertIsNone(least_within(THREE, []))

    def test_a_graph_of_no_order_may_have_one_within_it(self):
        shape = side_by_side(5, 3)
        ring = [(0, 1), (1, 2), (2, 3), (3, 4), (0, 4)]
        self.assertIsNone(orient(shape, ring))
        self.assertEqual(least_within(shape, ring), [(0, 1), (2, 3)])

    def test_without_an_ordered_pair_there_is_none(self):
        self.assertIsNone(least_within(FOUR, [(0, 2), (0, 3), (1, 2), (1, 3), (2, 3)]))
        self.assertEqual(least_within(FOUR, every_pair(4)), [(0, 1), (1, 2), (2, 3)])

    def test_seven(self):
        for most in range(1, 8):
            shape = side_by_side(7, most)
            self.assertEqual(least_within(shape, every_pair(7)), groups(7, most)[0])
            self.assertEqual(least_within(shape, groups(7, most)[-1]), groups(7, most)[-1])
            self.assertEqual(least_within(shape, []), [] if most == 7 else None)

    def test_each_graph_of_an_order_that_resolves_has_one_within_it(self):
        for shape in SHAPES[:100]:
            for pairs in resolving_graphs(shape, ORDERS[len(shape.names)]):
                self.assertLessEqual(set(least_within(shape, pairs)), set(pairs))


class SureAndIdlePairs(unittest.TestCase):
    def test_small_shapes(self):
        seen = set()
        for shape in SHAPES:
            least = all_least(shape, ORDERS[len(shape.names)])
            pairs = every_pair(len(shape.names))
            sure = [pair for pair in pairs if all(pair in told for told in least)]
            idle = [pair for pair in pairs if not any(pair in told for told in least)]
            self.assertEqual(sure_pairs(shape), sure)
            self.assertEqual(idle_pairs(shape), idle)
            seen.add((bool(sure), bool(idle), len(sure) + len(idle) < len(pairs)))
        self.assertLessEqual({(True, True, True), (False, False, True), (False, True, True)}, seen)

    def test_sure_just_if_ordered_or_forbidden(self):
        for shape in SHAPES + [some_shape(seed, 7) for seed in range(30)]:
            ahead = closure(shape.before)
            wanted = [
                pair for pair in every_pair(len(shape.names))
                if not is_free(pair, ahead) or is_forbidden(shape, pair)
            ]
            self.assertEqual(sure_pairs(shape), wanted)

    def test_seven(self):
        for most in range(1, 8):
            self.assertEqual(sure_pairs(side_by_side(7, most)), every_pair(7) if most == 1 else [])
            self.assertEqual(idle_pairs(side_by_side(7, most)), every_pair(7) if most == 7 else [])
        ring = [(0, 1), (0, 6), (1, 2), (2, 3), (3, 4), (4, 5), (5, 6)]
        self.assertEqual(sure_pairs(ring_of_seven()), ring)
        self.assertEqual(idle_pairs(ring_of_seven()), [
            (0, 3), (0, 4), (1, 4), (1, 5), (2, 5), (2, 6), (3, 6),
        ])

    def test_example(self):
        self.assertEqual(sure_pairs(THREE), [])


class Single(unittest.TestCase):
    def test_small_shapes(self):
        for shape in SHAPES:
            least = all_least(shape, ORDERS[len(shape.names)])
            large = [some for some in least_forbidden(shape) if len(some) > 2]
            told = single(shape)
            if len(least) == 1:
                self.assertEqual(told, ("graph", least[0]))
            elif large:
                self.assertEqual(told, ("set", large[0]))
            else:
                self.assertEqual(told, ("order", sure_pairs(shape)))
                self.assertIsNone(orient(shape, sure_pairs(shape)))

    def test_a_set(self):
        shape = Shape(tuple("abcd"), machines=((2, (0, 1, 1, 1)), (1, (1, 0, 0, 1))))
        self.assertEqual(single(shape), ("set", (1, 2, 3)))
        self.assertEqual(single(side_by_side(7, 5)), ("set", (0, 1, 2, 3, 4, 5)))

    def test_an_order(self):
        ring = [(0, 1), (0, 6), (1, 2), (2, 3), (3, 4), (4, 5), (5, 6)]
        self.assertEqual(single(ring_of_seven()), ("order", ring))
        machines = tuple((1, tuple(1 if a in pair else 0 for a in range(4))) for pair in ((0, 1), (1, 2), (2, 3)))
        turned = Shape(tuple("abcd"), before=((0, 1), (3, 2)), machines=machines)
        self.assertEqual(single(turned), ("order", [(0, 1), (1, 2), (2, 3)]))
        self.assertEqual(single(Shape(tuple("abcd"), machines=machines)), ("graph", [(0, 1), (1, 2), (2, 3)]))

    def test_a_large_forbidden_set_comes_ahead_of_no_order(self):
        pairs = ((0, 1), (2, 3), (4, 5), (5, 6))
        machines = [(1, tuple(1 if a in pair else 0 for a in range(7))) for pair in pairs]
        shape = Shape(tuple("abcdefg"), before=((4, 5), (6, 5)), machines=machines[:3] + [(2, (1, 0, 1, 0, 1, 0, 0))])
        self.assertEqual(single(shape), ("set", (0, 2, 4)))

    def test_seven(self):
        self.assertEqual(single(side_by_side(7, 1)), ("graph", every_pair(7)))
        self.assertEqual(single(side_by_side(7, 7)), ("graph", []))
        self.assertEqual(single(side_by_side(7, 2)), ("set", (0, 1, 2)))

    def test_example(self):
        self.assertEqual(single(THREE), ("set", (0, 1, 2)))
        self.assertEqual(single(FOUR), ("graph", [(0, 1), (1, 2), (2, 3)]))


class Facts(unittest.TestCase):
    def test_there_is_one_just_if_the_sure_pairs_are_enough(self):
        for shape in SHAPES:
            sure = sure_pairs(shape)
            forbidden = least_forbidden(shape)
            each_has_two = all(not is_free(some, sure) for some in forbidden)
            alone = each_has_two and orient(shape, sure) is not None
            self.assertEqual(len(least_graphs(shape)) == 1, alone)
            if alone:
                self.assertEqual(least_graphs(shape), [sure])

    def test_pairs_of_a_least_graph_cannot_be_left_out(self):
        rnd = random.Random(2)
        for seed in range(10):
            shape = some_shape(seed, 6)
            told = least_graphs(shape)
            for pairs in rnd.sample(told, min(len(told), 10)):
                for at in range(len(pairs)):
                    self.assertIsNotNone(graph_fault(shape, pairs[:at] + pairs[at + 1:]))


if __name__ == "__main__":
    unittest.main()
