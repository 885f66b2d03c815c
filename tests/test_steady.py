"""[27] to [29]: heights, how much longer than the least time a graph can ever be, the steadiest least graph."""

import random
import unittest

from crewlags.errors import NoGraph, NoSet, NoShape
from crewlags.graphs import graph_fault, least_graphs, orient
from crewlags.lengths import least_time, time_of
from crewlags.shapes import Shape, allowed_sets
from crewlags.steady import height, ratio, steadiest, worst
from tests.support import (
    FOUR, THREE, allowed, every_graph, every_order, every_pair, every_set, fraction, graph, odd_values, on_set, raised,
    resolving_graphs, ring_of_seven, side_by_side, slow_height, some_durations, some_shape, wrong_graphs,
)

ORDERS = {many: every_order(many) for many in (1, 2, 3, 4)}
SHAPES = [some_shape(seed, many) for many in (1, 2, 3, 4) for seed in range(12)] + [Shape(tuple("abcd"))]
SEVEN = [side_by_side(7, most) for most in range(1, 8)] + [ring_of_seven(), Shape(tuple("abcdefg"))]
PENTAGON = [(0, 1), (0, 4), (1, 2), (2, 3), (3, 4)]


def some_graph(rnd, many):
    """A graph of so many activities, of no order perhaps."""
    often = rnd.choice((0.3, 0.6, 0.9))
    return [pair for pair in every_pair(many) if rnd.random() < often]


def shuffled(rnd, pairs):
    """The same pairs in another order, as a list or a tuple."""
    told = list(pairs)
    rnd.shuffle(told)
    return rnd.choice((list, tuple))(told)


def slow_worst(shape, pairs):
    """The greatest height of an allowed set, and the first allowed set of so many members that is a clique."""
    factor = max(slow_height(pairs, some)[0] for some in allowed(shape))
    told = [some for some in allowed(shape) if slow_height(pairs, some)[0] == len(some) == factor]
    return factor, told[0]


def slow_ratio(many, one, other):
    """The greatest number of members of which each two are a pair of one and no two a pair of other; the first set."""
    free = [some for some in every_set(many) if slow_height(other, some)[0] == 1]
    factor = max(slow_height(one, some)[0] for some in free)
    return factor, [some for some in free if slow_height(one, some)[0] == len(some) == factor][0]


class Height(unittest.TestCase):
    def test_all_sets_in_all_graphs_of_small_shapes(self):
        rnd = random.Random(1)
        for many in (1, 2, 3, 4):
            shape = Shape(tuple("abcd"[:many]))
            for pairs in every_graph(many):
                for some in [()] + every_set(many):
                    self.assertEqual(height(shape, shuffled(rnd, pairs), some), slow_height(pairs, some))

    def test_graphs_of_seven(self):
        rnd = random.Random(2)
        for _ in range(12):
            pairs = some_graph(rnd, 7)
            for some in [()] + rnd.sample(every_set(7), 30) + [tuple(range(7))]:
                self.assertEqual(height(rnd.choice(SEVEN), shuffled(rnd, pairs), some), slow_height(pairs, some))

    def test_nothing_has_the_height_0(self):
        for pairs in ([], [(0, 1)], every_pair(3)):
            self.assertEqual(height(THREE, pairs, ()), (0, ()))

    def test_the_first_of_several(self):
        shape = Shape(tuple("abcde"))
        self.assertEqual(height(shape, PENTAGON, (0, 1, 2, 3, 4)), (2, (0, 1)))
        self.assertEqual(height(shape, PENTAGON, (1, 3, 4)), (2, (3, 4)))
        self.assertEqual(height(shape, PENTAGON, (0, 2)), (1, (0,)))
        self.assertEqual(height(shape, [(2, 4), (1, 3), (1, 2), (2, 3), (3, 4)], (1, 2, 3, 4)), (3, (1, 2, 3)))
        self.assertEqual(height(shape, every_pair(5), (1, 3, 4)), (3, (1, 3, 4)))
        self.assertEqual(height(shape, [], (2, 3)), (1, (2,)))

    def test_the_shape_does_not_matter_beyond_its_number_of_activities(self):
        for some in [()] + every_set(4):
            self.assertEqual(height(FOUR, [(0, 3), (1, 3)], some), height(side_by_side(4, 1), [(0, 3), (1, 3)], some))

    def test_no_graph(self):
        for value, index in wrong_graphs():
            for some in ((0, 1), None):
                self.assertEqual(raised(lambda: height(THREE, value, some)), (NoGraph, {"index": index}))

    def test_no_set(self):
        for some in odd_values() + [[0, 1], [], (1, 0), (0, 0), (0, True), (False,), (3,), (-1, 0), "01", (0, 1, 2, 3)]:
            told = raised(lambda: height(THREE, [(0, 1)], some))
            self.assertEqual(told[0], NoSet)
            self.assertIs(told[1]["some"], some)

    def test_what_comes_first(self):
        self.assertEqual(raised(lambda: height(None, None, None)), (NoShape, {"part": "shape", "index": -1}))
        self.assertEqual(raised(lambda: height(THREE, [(1, 0)], None)), (NoGraph, {"index": 0}))
        self.assertEqual(raised(lambda: height(THREE, [(0, 1)], None)), (NoSet, {"some": None}))


class Worst(unittest.TestCase):
    def test_all_graphs_of_small_shapes(self):
        rnd = random.Random(3)
        seen = set()
        for shape in SHAPES:
            many = len(shape.names)
            for pairs in every_graph(many):
                factor, some = worst(shape, shuffled(rnd, pairs))
                self.assertEqual((factor, some), slow_worst(shape, pairs))
                seen.add(factor)
        self.assertEqual(seen, {1, 2, 3, 4})

    def test_the_durations_that_show_it(self):
        rnd = random.Random(4)
        for shape in SHAPES + [some_shape(seed, 6) for seed in range(6)]:
            many = len(shape.names)
            for pairs in [some_graph(rnd, many) for _ in range(4)] + least_graphs(shape)[:4]:
                factor, some = worst(shape, pairs)
                self.assertIn(some, allowed(shape))
                self.assertEqual(time_of(shape, pairs, on_set(some, many))[0], factor)
                self.assertEqual(least_time(shape, on_set(some, many))[0], 1)

    def test_no_durations_show_more(self):
        rnd = random.Random(5)
        for shape in SHAPES:
            many = len(shape.names)
            for _ in range(4):
                pairs = some_graph(rnd, many)
                factor, _ = worst(shape, pairs)
                for durations in [some_durations(rnd, many)] + [on_set(some, many) for some in every_set(many)]:
                    least = fraction(least_time(shape, durations)[0])
                    self.assertLessEqual(fraction(time_of(shape, pairs, durations)[0]), factor * least)

    def test_examples(self):
        self.assertEqual(worst(THREE, [(0, 1)]), (2, (0, 1)))
        self.assertEqual(worst(THREE, [(1, 2)]), (2, (1, 2)))
        self.assertEqual(worst(THREE, every_pair(3)), (2, (0, 1)))
        self.assertEqual(worst(THREE, []), (1, (0,)))
        self.assertEqual(worst(FOUR, [(0, 1), (1, 2), (2, 3)]), (1, (0,)))
        self.assertEqual(worst(FOUR, [(1, 3), (0, 3)]), (2, (0, 3)))

    def test_seven(self):
        whole = every_pair(7)
        for most in range(1, 8):
            self.assertEqual(worst(side_by_side(7, most), whole), (most, tuple(range(most))))
            self.assertEqual(worst(side_by_side(7, most), tuple(whole[::-1])), (most, tuple(range(most))))
        self.assertEqual(worst(ring_of_seven(), whole), (3, (0, 2, 4)))
        self.assertEqual(worst(ring_of_seven(), [(0, 1), (1, 2), (0, 6)]), (1, (0,)))
        rnd = random.Random(6)
        for shape in SEVEN:
            pairs = some_graph(rnd, 7)
            self.assertEqual(worst(shape, pairs), slow_worst(shape, pairs))

    def test_no_graph(self):
        for value, index in wrong_graphs():
            self.assertEqual(raised(lambda: worst(THREE, value)), (NoGraph, {"index": index}))


class Ratio(unittest.TestCase):
    def test_all_graphs_of_small_shapes(self):
        rnd = random.Random(7)
        seen = set()
        for shape in SHAPES:
            many = len(shape.names)
            for other in every_graph(many):
                if orient(shape, other) is None:
                    one = rnd.choice(every_graph(many))
                    told = raised(lambda: ratio(shape, one, shuffled(rnd, other)))
                    self.assertEqual(told, (NoGraph, {"index": len(other)}))
                    continue
                for one in rnd.sample(every_graph(many), 2 ** min(many - 1, 3)):
                    told = ratio(shape, shuffled(rnd, one), shuffled(rnd, other))
                    self.assertEqual(told, slow_ratio(many, one, other))
                    seen.add(told[0])
        self.assertEqual(seen, {1, 2, 3, 4})

    def test_the_durations_that_show_it(self):
        rnd = random.Random(8)
        for many in (3, 4):
            for order in rnd.sample(ORDERS[many], 15):
                shape, other, one = Shape(tuple("abcd"[:many])), graph(order), some_graph(rnd, many)
                factor, some = ratio(shape, one, other)
                self.assertEqual(time_of(shape, one, on_set(some, many))[0], factor)
                self.assertEqual(time_of(shape, other, on_set(some, many))[0], 1)
                for durations in [some_durations(rnd, many), some_durations(rnd, many)]:
                    least = fraction(time_of(shape, other, durations)[0])
                    self.assertLessEqual(fraction(time_of(shape, one, durations)[0]), factor * least)

    def test_with_itself_a_part_and_others(self):
        shape = Shape(tuple("abcd"))
        one = [(0, 1), (2, 3)]
        self.assertEqual(ratio(shape, one, one), (1, (0,)))
        self.assertEqual(ratio(shape, one[:1], one), (1, (0,)))
        self.assertEqual(ratio(shape, one, one[:1]), (2, (2, 3)))
        self.assertEqual(ratio(shape, [(0, 2), (1, 3)], one), (2, (0, 2)))
        self.assertEqual(ratio(shape, one, []), (2, (0, 1)))
        self.assertEqual(ratio(shape, every_pair(4), []), (4, (0, 1, 2, 3)))
        self.assertEqual(ratio(shape, every_pair(4), one), (2, (0, 2)))
        self.assertEqual(ratio(shape, [], every_pair(4)), (1, (0,)))
        self.assertEqual(ratio(shape, [], []), (1, (0,)))
        self.assertEqual(ratio(THREE, [(0, 1)], [(0, 2)]), (2, (0, 1)))

    def test_other_has_to_keep_the_shape_but_not_to_resolve_it(self):
        self.assertEqual(ratio(THREE, [(0, 1)], []), (2, (0, 1)))
        self.assertEqual(ratio(FOUR, [(2, 3)], ((0, 1),)), (2, (2, 3)))
        self.assertEqual(raised(lambda: ratio(FOUR, [(0, 1)], [])), (NoGraph, {"index": 0}))
        self.assertEqual(raised(lambda: ratio(FOUR, [(0, 1)], [(2, 3), (0, 2)])), (NoGraph, {"index": 2}))

    def test_one_may_be_a_graph_of_no_order(self):
        shape = Shape(tuple("abcde"), before=((0, 2),))
        self.assertEqual(ratio(shape, PENTAGON, [(0, 2)]), (2, (0, 1)))
        self.assertEqual(ratio(shape, PENTAGON, [(0, 1), (0, 2), (0, 4)]), (2, (1, 2)))
        self.assertEqual(raised(lambda: ratio(shape, [(0, 2)], PENTAGON)), (NoGraph, {"index": 5}))
        self.assertEqual(raised(lambda: ratio(Shape(tuple("abcde")), [], PENTAGON)), (NoGraph, {"index": 5}))

    def test_seven(self):
        rnd = random.Random(9)
        for shape in SEVEN:
            for other in ([], every_pair(7), [(0, 1), (2, 3), (4, 5)], [(0, a) for a in range(1, 7)]):
                one = some_graph(rnd, 7)
                self.assertEqual(ratio(shape, one, other), slow_ratio(7, one, other))

    def test_no_graph(self):
        for value, index in wrong_graphs():
            for other in ([], None):
                self.assertEqual(raised(lambda: ratio(THREE, value, other)), (NoGraph, {"index": index}))
            self.assertEqual(raised(lambda: ratio(THREE, [(0, 1)], value)), (NoGraph, {"index": index}))
        self.assertEqual(raised(lambda: ratio(FOUR, [(0, 1), (0, 1)], [])), (NoGraph, {"index": 1}))
        self.assertEqual(raised(lambda: ratio(FOUR, [], [(2, 3), (1, 0)])), (NoGraph, {"index": 1}))


class Steadiest(unittest.TestCase):
    def test_against_worst_of_all_least_graphs(self):
        seen = set()
        # of these the first least graph is not the steadiest one
        later = [some_shape(seed, 7) for seed in (2, 73)] + [some_shape(197, 6)]
        for shape in SHAPES + [some_shape(seed, 6) for seed in range(12)] + SEVEN + later:
            graphs = least_graphs(shape)
            factors = [worst(shape, pairs)[0] for pairs in graphs]
            least = min(factors)
            self.assertEqual(steadiest(shape), (least, graphs[factors.index(least)]))
            self.assertEqual(least == 1, len(graphs) == 1)
            seen.add((least, factors.index(least) > 0))
        self.assertLessEqual({(1, False), (2, False), (2, True), (3, False)}, seen)

    def test_no_graph_that_resolves_has_less(self):
        for shape in SHAPES:
            factor, pairs = steadiest(shape)
            graphs = resolving_graphs(shape, ORDERS[len(shape.names)])
            self.assertEqual(factor, min(worst(shape, told)[0] for told in graphs))
            self.assertIsNone(graph_fault(shape, pairs))

    def test_the_first_of_several(self):
        self.assertEqual(steadiest(THREE), (2, [(0, 1)]))
        self.assertEqual(steadiest(FOUR), (1, [(0, 1), (1, 2), (2, 3)]))
        self.assertEqual(steadiest(Shape(("a", "b"))), (1, []))
        shape = some_shape(73, 7)
        self.assertEqual([worst(shape, pairs)[0] for pairs in least_graphs(shape)][:2], [3, 2])
        self.assertEqual(steadiest(shape), (2, least_graphs(shape)[1]))

    def test_a_list_of_its_own(self):
        first = steadiest(THREE)
        first[1].append((1, 2))
        self.assertEqual(steadiest(THREE), (2, [(0, 1)]))


class AllowedSets(unittest.TestCase):
    def test_the_height_of_allowed_sets_is_the_factor(self):
        rnd = random.Random(10)
        for shape in SHAPES:
            pairs = some_graph(rnd, len(shape.names))
            heights = [height(shape, pairs, some)[0] for some in allowed_sets(shape)]
            self.assertEqual(max(heights), worst(shape, pairs)[0])


if __name__ == "__main__":
    unittest.main()
