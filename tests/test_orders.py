"""[11], [12], and what [13] says of the graph of an order."""

import random
import unittest
from itertools import permutations

from crewlags.errors import NoOrder, NoPairs
from crewlags.orders import closed, graph_of, is_order, unresolved
from crewlags.shapes import Shape
from tests.support import (
    FOUR, THREE, closure, every_order, every_set, fields, first_free, graph, is_free, is_transitive, no_rows, odd_values,
    orders_of, some_shape, wrong_pairs,
)

ORDERS = {many: every_order(many) for many in (1, 2, 3, 4)}
SHAPES = [some_shape(seed, many) for many in (1, 2, 3, 4) for seed in range(25)]


def mixed(seed, rows):
    """Rows in another order, as a list or a tuple."""
    rnd = random.Random(seed)
    rows = list(rows)
    rnd.shuffle(rows)
    return rows if rnd.random() < 0.5 else tuple(rows)


class IsOrder(unittest.TestCase):
    def test_all_orders_of_small_shapes(self):
        for seed, shape in enumerate(SHAPES):
            ahead = closure(shape.before)
            for order in ORDERS[len(shape.names)]:
                told = is_order(shape, mixed(seed, order))
                self.assertIs(told, ahead <= set(order))

    def test_all_rows_of_pairs_of_three(self):
        pairs = [(a, b) for a in range(3) for b in range(3) if a != b]
        shape = Shape(("a", "b", "c"))
        ahead = Shape(("a", "b", "c"), before=((2, 1),))
        for size in range(5):
            for told in permutations(pairs, size):
                self.assertIs(is_order(shape, told), is_transitive(told), told)
                self.assertIs(is_order(ahead, list(told)), is_transitive(told) and (2, 1) in told, told)

    def test_a_pair_less_more_twice_or_turned(self):
        shape = Shape(tuple("abcd"), before=((0, 1), (1, 2)))
        order = [(0, 1), (0, 2), (1, 2)]
        self.assertIs(is_order(shape, order), True)
        self.assertIs(is_order(shape, tuple(order)), True)
        for at in range(3):
            self.assertIs(is_order(shape, order[:at] + order[at + 1:]), False)
            self.assertIs(is_order(shape, order + [order[at]]), False)
            self.assertIs(is_order(shape, order + [order[at][::-1]]), False)
            self.assertIs(is_order(shape, order[:at] + [order[at][::-1]] + order[at + 1:]), False)
        self.assertIs(is_order(shape, order + [(2, 3)]), False)
        self.assertIs(is_order(shape, order + [(2, 3), (1, 3), (0, 3)]), True)
        self.assertIs(is_order(shape, order + [(0, 3)]), True)

    def test_what_is_no_list_or_tuple_of_pairs(self):
        for value in odd_values() + ["", {}, {(0, 1): 1}, {(0, 1)}, frozenset([(0, 1)]), iter([(0, 1)]), b""]:
            self.assertIs(is_order(THREE, value), False)
        for pair in wrong_pairs(3):
            self.assertIs(is_order(THREE, [pair]), False)
            self.assertIs(is_order(THREE, [(0, 1), pair]), False)
        self.assertIs(is_order(THREE, []), True)
        self.assertIs(is_order(THREE, ()), True)


class Closed(unittest.TestCase):
    def test_with_an_order(self):
        shape = Shape(tuple("abcde"), before=((3, 4),))
        self.assertEqual(closed(shape, []), ("order", [(3, 4)]))
        told = [(4, 0), (0, 1), (4, 0)]
        self.assertEqual(closed(shape, told), ("order", [(0, 1), (3, 0), (3, 1), (3, 4), (4, 0), (4, 1)]))
        self.assertEqual(closed(shape, tuple(told)), closed(shape, told[::-1]))

    def test_with_rings(self):
        shape = Shape(tuple("abcde"), before=((3, 4),))
        self.assertEqual(closed(shape, [(4, 3)]), ("ring", (3, 4)))
        self.assertEqual(closed(shape, [(0, 1), (1, 0), (0, 1)]), ("ring", (0, 1)))
        self.assertEqual(closed(shape, [(4, 1), (1, 3)]), ("ring", (1, 3, 4)))
        self.assertEqual(closed(shape, [(2, 1), (1, 0), (0, 2)]), ("ring", (0, 2, 1)))
        self.assertEqual(closed(shape, [(2, 1), (1, 0), (0, 2), (4, 0), (0, 3)]), ("ring", (0, 2, 1)))
        self.assertEqual(closed(shape, [(2, 1), (1, 0), (0, 2), (2, 0)]), ("ring", (0, 2)))

    def test_a_ring_that_takes_what_goes_ahead_over_others(self):
        shape = Shape(tuple("abcd"), before=((0, 1), (1, 2), (2, 3)))
        self.assertEqual(closed(shape, [(3, 0)]), ("ring", (0, 3)))
        # told pairs alone are not shortened
        self.assertEqual(closed(Shape(tuple("abcd")), [(0, 1), (1, 2), (2, 3), (3, 0)]), ("ring", (0, 1, 2, 3)))

    def test_a_ring_of_all_seven(self):
        row = (0, 3, 5, 1, 6, 2, 4)
        pairs = [(row[at], row[(at + 1) % 7]) for at in range(7)]
        self.assertEqual(closed(Shape(tuple("abcdefg")), mixed(1, pairs)), ("ring", row))

    def test_many_pairs_of_small_shapes(self):
        rnd = random.Random(5)
        seen = set()
        for shape in SHAPES * 4:
            many = len(shape.names)
            pairs = [(a, b) for a in range(many) for b in range(many) if a != b]
            told = mixed(rnd.random(), [rnd.choice(pairs) for _ in range(rnd.randint(0, 5))] if pairs else [])
            edges = closure(shape.before) | set(told)
            word, result = closed(shape, told)
            seen.add((word, len(result)))
            self.assertEqual((word, result), told_closed(many, edges))
        self.assertLessEqual({("ring", 2), ("ring", 3), ("order", 3)}, seen)

    def test_no_pairs(self):
        for value in no_rows() + ["", {}, {(0, 1): 1}]:
            self.refused(value, -1)
        for pair in wrong_pairs(3):
            self.refused([pair], 0)
            self.refused(((0, 1), (0, 1), (1, 0), pair, pair), 3)

    def refused(self, pairs, index):
        with self.assertRaises(NoPairs) as caught:
            closed(THREE, pairs)
        self.assertEqual(fields(caught.exception), {"index": index})

    def test_example(self):
        self.assertEqual(closed(FOUR, [(1, 2), (2, 0)]), ("ring", (0, 1, 2)))


def told_closed(many, edges):
    """What closed has to tell, by trying all rings."""
    for size in range(2, many + 1):
        for ring in permutations(range(many), size):
            if all((ring[at - 1], ring[at]) in edges for at in range(size)):
                return "ring", ring
    return "order", sorted(closure(edges))


class Unresolved(unittest.TestCase):
    def test_all_orders_of_small_shapes(self):
        free = set()
        for seed, shape in enumerate(SHAPES):
            for order in orders_of(shape, ORDERS[len(shape.names)]):
                some = unresolved(shape, mixed(seed, order))
                self.assertEqual(some, first_free(shape, order))
                free.add(None if some is None else len(some))
        self.assertLessEqual({None, 2, 3}, free)

    def test_free_is_in_neither_direction(self):
        shape = Shape(("a", "b"), machines=((1, (1, 1)),))
        self.assertEqual(unresolved(shape, []), (0, 1))
        self.assertIsNone(unresolved(shape, [(0, 1)]))
        self.assertIsNone(unresolved(shape, [(1, 0)]))

    def test_example(self):
        self.assertEqual(unresolved(FOUR, [(0, 1)]), (1, 2))
        self.assertEqual(unresolved(FOUR, [(2, 1), (0, 1)]), (2, 3))
        self.assertIsNone(unresolved(FOUR, [(2, 1), (0, 1), (2, 3)]))


class GraphOf(unittest.TestCase):
    def test_all_orders_of_small_shapes(self):
        for seed, shape in enumerate(SHAPES):
            for order in orders_of(shape, ORDERS[len(shape.names)]):
                self.assertEqual(graph_of(shape, mixed(seed, order)), graph(order))

    def test_in_ascending_order(self):
        shape = Shape(tuple("abcd"))
        order = [(3, 0), (3, 1), (2, 0), (3, 2), (2, 1), (1, 0)]
        self.assertEqual(graph_of(shape, order), [(0, 1), (0, 2), (0, 3), (1, 2), (1, 3), (2, 3)])

    def test_what_is_free_has_no_pair_of_the_graph(self):
        for shape in SHAPES:
            for order in orders_of(shape, ORDERS[len(shape.names)])[:20]:
                for some in every_set(len(shape.names)):
                    self.assertEqual(is_free(some, order), is_free(some, graph_of(shape, order)))


class WrongOrders(unittest.TestCase):
    def test_no_list_or_tuple(self):
        for value in no_rows() + ["", {}, {(0, 1): 1}, {(0, 1)}]:
            self.refused(FOUR, value, -1)

    def test_the_first_item_that_is_no_pair_or_there_a_second_time(self):
        for pair in wrong_pairs(4):
            self.refused(FOUR, [pair], 0)
            self.refused(FOUR, ((0, 1), (2, 3), pair, (0, 1), pair), 2)
        self.refused(FOUR, [(0, 1), (2, 3), (0, 1), None], 2)
        self.refused(FOUR, [(0, 1), (0, 1), (1, 0)], 1)

    def test_no_order_otherwise(self):
        self.refused(FOUR, [], 0)
        self.refused(FOUR, ((2, 3),), 1)
        self.refused(FOUR, [(1, 0)], 1)
        self.refused(FOUR, [(0, 1), (1, 0)], 2)
        self.refused(FOUR, [(0, 1), (1, 2)], 2)
        self.refused(FOUR, ((0, 1), (1, 2), (2, 0)), 3)
        self.refused(Shape(tuple("abc"), before=((0, 1), (1, 2))), [(0, 1), (1, 2)], 2)

    def refused(self, shape, order, index):
        for function in (unresolved, graph_of):
            with self.assertRaises(NoOrder) as caught:
                function(shape, order)
            self.assertEqual(fields(caught.exception), {"index": index})


if __name__ == "__main__":
    unittest.main()
