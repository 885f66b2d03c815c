"""[13]: graphs, the orders whose graphs they are, and what is wrong with them."""

import random
import unittest

from crewlags.errors import NoGraph
from crewlags.graphs import graph_fault, least_within, orient
from crewlags.lengths import longer_at, time_of
from crewlags.orders import graph_of, is_order
from crewlags.shapes import Shape
from tests.support import (
    FOUR, THREE, every_graph, every_order, every_pair, fields, first_free, graph, no_rows, odd_values, orders_of,
    ring_of_seven, some_shape, wrong_pairs,
)

ORDERS = {many: every_order(many) for many in (1, 2, 3, 4, 5)}


def first_orders(shape):
    """For each graph of an order of the shape the first such order."""
    firsts = {}
    for order in sorted(orders_of(shape, ORDERS[len(shape.names)])):
        firsts.setdefault(tuple(graph(order)), order)
    return firsts


def mixed(rnd, rows):
    """Rows in another order, as a list or a tuple."""
    rows = list(rows)
    rnd.shuffle(rows)
    return rows if rnd.random() < 0.5 else tuple(rows)


class Orient(unittest.TestCase):
    def test_all_graphs_of_small_shapes(self):
        rnd = random.Random(3)
        for many in (1, 2, 3, 4):
            for seed in range(20):
                shape = some_shape(seed, many)
                firsts = first_orders(shape)
                for told in every_graph(many):
                    self.assertEqual(orient(shape, mixed(rnd, told)), firsts.get(tuple(told)), (seed, told))

    def test_all_graphs_of_five_without_anything_ahead(self):
        shape = Shape(tuple("abcde"))
        firsts = first_orders(shape)
        for told in every_graph(5):
            self.assertEqual(orient(shape, told), firsts.get(tuple(told)), told)

    def test_some_graphs_of_five_with_something_ahead(self):
        rnd = random.Random(4)
        for seed in range(12):
            pairs = [pair[::rnd.choice((1, -1))] for pair in rnd.sample(every_pair(5), 2)]
            shape = Shape(tuple("abcde"), before=pairs)
            firsts = first_orders(shape)
            for told in rnd.sample(every_graph(5), 150) + rnd.sample(sorted(firsts), 50):
                self.assertEqual(orient(shape, mixed(rnd, told)), firsts.get(tuple(told)), (pairs, told))

    def test_none_where_there_is_no_way(self):
        ring = [(0, 1), (1, 2), (2, 3), (3, 4), (0, 4)]
        self.assertIsNone(orient(Shape(tuple("abcde")), ring))
        self.assertIsNone(orient(Shape(tuple("abcdef")), ring))
        self.assertIsNone(orient(Shape(tuple("abc"), before=((0, 1),)), [(0, 2)]))
        self.assertIsNone(orient(Shape(tuple("abc"), before=((0, 1), (1, 2))), [(0, 1), (1, 2)]))

    def test_what_goes_ahead_turns_others(self):
        path = [(0, 1), (1, 2), (2, 3)]
        self.assertEqual(orient(Shape(tuple("abcd")), path), [(0, 1), (2, 1), (2, 3)])
        self.assertEqual(orient(Shape(tuple("abcd"), before=((3, 2),)), path), [(1, 0), (1, 2), (3, 2)])
        self.assertIsNone(orient(Shape(tuple("abcd"), before=((0, 1), (3, 2))), path))

    def test_none_and_all_pairs_of_seven(self):
        shape = Shape(tuple("abcdefg"))
        self.assertEqual(orient(shape, []), [])
        self.assertEqual(orient(shape, every_pair(7)), every_pair(7))
        turned = Shape(tuple("abcdefg"), before=((6, 0),))
        order = orient(turned, every_pair(7)[::-1])
        self.assertEqual(order, sorted(order))
        self.assertTrue(is_order(turned, order))
        self.assertEqual(graph_of(turned, order), every_pair(7))
        row = sorted(range(7), key=lambda a: sum(1 for _, b in order if b == a))
        self.assertEqual(row, [6, 0, 1, 2, 3, 4, 5])

    def test_seven_in_rings(self):
        ring = [(0, 1), (1, 2), (2, 3), (3, 4), (4, 5), (5, 6), (0, 6)]
        self.assertIsNone(orient(Shape(tuple("abcdefg")), ring))
        six = [(0, 1), (1, 2), (2, 3), (3, 4), (4, 5), (0, 5)]
        self.assertEqual(orient(Shape(tuple("abcdefg")), six), [(0, 1), (0, 5), (2, 1), (2, 3), (4, 3), (4, 5)])

    def test_example(self):
        self.assertEqual(orient(FOUR, [(0, 1), (1, 2), (2, 3)]), [(0, 1), (2, 1), (2, 3)])
        self.assertEqual(orient(FOUR, ((2, 3), (0, 1), (1, 2))), [(0, 1), (2, 1), (2, 3)])


class GraphFault(unittest.TestCase):
    def test_all_graphs_of_small_shapes(self):
        rnd = random.Random(6)
        kinds = set()
        for many in (1, 2, 3, 4):
            for seed in range(30):
                shape = some_shape(seed, many)
                firsts = first_orders(shape)
                for told in every_graph(many):
                    wanted = ("order", ())
                    if tuple(told) in firsts:
                        some = first_free(shape, told)
                        wanted = None if some is None else ("set", some)
                    self.assertEqual(graph_fault(shape, mixed(rnd, told)), wanted, (seed, told))
                    kinds.add(wanted and (wanted[0], len(wanted[1])))
        self.assertLessEqual({None, ("order", 0), ("set", 2), ("set", 3)}, kinds)

    def test_the_first_set(self):
        shape = Shape(tuple("abcd"), machines=((2, (1, 1, 1, 1)), (3, (0, 2, 0, 2))))
        self.assertEqual(graph_fault(shape, []), ("set", (1, 3)))
        self.assertEqual(graph_fault(shape, [(1, 3)]), ("set", (0, 1, 2)))
        self.assertEqual(graph_fault(shape, [(1, 3), (1, 2)]), ("set", (0, 2, 3)))
        self.assertIsNone(graph_fault(shape, [(1, 3), (0, 2)]))

    def test_no_order_comes_ahead_of_a_free_set(self):
        self.assertEqual(graph_fault(ring_of_seven(), []), ("set", (0, 1)))
        ring = [(0, 1), (1, 2), (2, 3), (3, 4), (4, 5), (5, 6), (0, 6)]
        self.assertEqual(graph_fault(ring_of_seven(), ring), ("order", ()))
        self.assertEqual(graph_fault(Shape(tuple("abc"), before=((0, 1),), machines=((0, (0, 0, 0)),)), []), ("order", ()))


class WrongGraphs(unittest.TestCase):
    def test_no_list_or_tuple(self):
        for value in no_rows() + ["", {}, {(0, 1): 1}, {(0, 1)}]:
            self.refused(value, -1)

    def test_the_first_item_that_is_no_pair(self):
        for pair in wrong_pairs(4):
            self.refused([pair], 0)
            self.refused(((0, 1), (2, 3), pair, (0, 1), pair), 2)

    def test_the_greater_one_first(self):
        self.refused([(1, 0)], 0)
        self.refused(((0, 1), (3, 2), (0, 1)), 1)

    def test_there_a_second_time(self):
        self.refused([(0, 1), (0, 1)], 1)
        self.refused(((0, 1), (2, 3), (1, 2), (2, 3), None), 3)
        self.refused([(0, 1), (1, 0)], 1)

    def refused(self, value, index):
        calls = [
            lambda: orient(FOUR, value), lambda: graph_fault(FOUR, value), lambda: least_within(FOUR, value),
            lambda: time_of(FOUR, value, ()), lambda: longer_at(FOUR, value, None), lambda: longer_at(FOUR, [], value),
        ]
        for call in calls:
            with self.assertRaises(NoGraph) as caught:
                call()
            self.assertEqual(fields(caught.exception), {"index": index})

    def test_of_two_graphs_the_first_one_counts(self):
        with self.assertRaises(NoGraph) as caught:
            longer_at(FOUR, [(0, 1), (1, 0)], 5)
        self.assertEqual(fields(caught.exception), {"index": 1})
        for value in odd_values():
            if not isinstance(value, (list, tuple)):
                with self.assertRaises(NoGraph) as caught:
                    longer_at(THREE, [(0, 1)], value)
                self.assertEqual(fields(caught.exception), {"index": -1})


if __name__ == "__main__":
    unittest.main()
