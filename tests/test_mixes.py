"""[30], [31]: mixes of graphs and of sets, the best mix there is, and what shows that it is."""

import random
import unittest
from fractions import Fraction

from crewlags.errors import NoBlind, NoDurations, NoMix, NoShape
from crewlags.graphs import least_graphs
from crewlags.lengths import least_time, time_of
from crewlags.mixes import against, blind, check_blind, mean_time, worst_mix
from crewlags.shapes import Shape
from crewlags.steady import steadiest, worst
from tests.support import (
    FOUR, THREE, allowed, every_graph, every_order, every_pair, fraction, looped, no_rows, number, odd_values, on_set,
    raised, resolving_graphs, ring_of_seven, side_by_side, slow_height, slow_time, some_durations, some_shape,
    wrong_amounts, wrong_graphs,
)

ORDERS = {many: every_order(many) for many in (1, 2, 3, 4)}
SHAPES = [some_shape(seed, many) for many in (1, 2, 3, 4) for seed in range(12)] + [side_by_side(4, 2)]
THIRDS = [([(0, 1)], (1, 3)), ([(0, 2)], (1, 3)), ([(1, 2)], (1, 3))]
PAIRS = [((0, 1), (1, 3)), ((0, 2), (1, 3)), ((1, 2), (1, 3))]
GREAT = 10 ** 60


def some_shares(rnd, many):
    """So many amounts that are together 1, some of them 0."""
    tops = [rnd.choice((0, 1, 1, 2, 5)) for _ in range(many)]
    if not any(tops):
        tops[rnd.randrange(many)] = 3
    return [number(Fraction(top, sum(tops))) for top in tops]


def some_mix(rnd, things):
    """A mix of some of the things, one of them more than once perhaps."""
    told = [rnd.choice(things) for _ in range(rnd.randint(1, 5))]
    return list(zip(told, some_shares(rnd, len(told))))


def mean_height(mix, some):
    """The mean height of a set in a mix of graphs."""
    return sum(fraction(amount) * slow_height(pairs, some)[0] for pairs, amount in mix)


def slow_worst(shape, mix):
    """What worst_mix has to tell."""
    means = [(mean_height(mix, some), some) for some in allowed(shape)]
    most = max(mean for mean, _ in means)
    return number(most), [some for mean, some in means if mean == most][0]


def slow_against(graphs, sets):
    """What against has to tell, the least graphs being told."""
    sums = [sum(fraction(amount) * slow_height(pairs, some)[0] for some, amount in sets) for pairs in graphs]
    return number(min(sums)), graphs[sums.index(min(sums))]


def wrong_mixes(right, wrong):
    """What is no mix, each with its index: right and wrong are things, the wrong ones none that may be in it."""
    rows = [(value, -1) for value in no_rows() + [(), [], ((right, 1),), ((right, (1, 2)), (right, (1, 2)))]]
    for value in odd_values() + [[right, 1], (right,), (right, 1, 1), (), (1, right), {0: right, 1: 1}, "ab"]:
        rows += [([value], 0), ([(right, 1), value, None], 1)]
    for value in wrong:
        rows += [([(value, 1)], 0), ([(right, (1, 2)), (right, (1, 2)), (value, 0)], 2)]
    for amount in wrong_amounts():
        rows += [([(right, amount)], 0), ([(right, (1, 2)), (right, amount), (None, 1)], 1)]
    for amounts in ([0], [2], [(1, 2)], [(1, 2), (1, 3)], [1, 0, (1, GREAT)], [(1, 3), (1, 3), (1, 4)], [0, 0, 0, 0]):
        rows.append(([(right, amount) for amount in amounts], len(amounts)))
    return rows


class MeanTime(unittest.TestCase):
    def test_against_the_words(self):
        rnd = random.Random(1)
        for shape in SHAPES:
            many = len(shape.names)
            for _ in range(6):
                mix = some_mix(rnd, every_graph(many))
                durations = some_durations(rnd, many)
                told = sum(fraction(amount) * slow_time(pairs, durations) for pairs, amount in mix)
                self.assertEqual(mean_time(shape, mix, durations), number(told))

    def test_one_item(self):
        durations = (2, (3, 2), 5)
        for pairs in every_graph(3):
            self.assertEqual(mean_time(THREE, [(pairs, 1)], durations), time_of(THREE, pairs, durations)[0])
            self.assertEqual(mean_time(THREE, [(tuple(pairs), 1)], durations), time_of(THREE, pairs, durations)[0])

    def test_several(self):
        self.assertEqual(mean_time(THREE, THIRDS, (1, 1, 1)), 2)
        self.assertEqual(mean_time(THREE, THIRDS, (3, 2, 1)), 4)
        self.assertEqual(mean_time(THREE, THIRDS, (3, 2, 2)), (14, 3))
        self.assertEqual(mean_time(THREE, THIRDS, (0, 0, 0)), 0)
        self.assertEqual(mean_time(THREE, [([], (1, 2)), (every_pair(3), (1, 2))], (1, 2, 4)), (11, 2))
        twice = [([(0, 1)], (1, 4)), ([(0, 1)], (1, 4)), ([], 0), ([], (1, 2))]
        self.assertEqual(mean_time(THREE, twice, (1, 1, 1)), (3, 2))
        self.assertEqual(mean_time(THREE, twice, ((1, 3), (1, 3), (1, GREAT))), (1, 2))

    def test_no_mix(self):
        for value, index in wrong_mixes([(0, 1)], [value for value, _ in wrong_graphs()]):
            for durations in ((1, 1, 1), None):
                self.assertEqual(raised(lambda: mean_time(THREE, value, durations)), (NoMix, {"index": index}))

    def test_no_durations(self):
        for value in no_rows() + [[1, 2, 3], (), (1, 2), (1, 2, 3, 4), "123", looped()]:
            self.assertEqual(raised(lambda: mean_time(THREE, THIRDS, value)), (NoDurations, {"index": -1}))
        for value in wrong_amounts():
            self.assertEqual(raised(lambda: mean_time(THREE, THIRDS, (1, value, 1))), (NoDurations, {"index": 1}))

    def test_what_comes_first(self):
        self.assertEqual(raised(lambda: mean_time(7, None, None)), (NoShape, {"part": "shape", "index": -1}))
        self.assertEqual(raised(lambda: mean_time(THREE, THIRDS[:2], ())), (NoMix, {"index": 2}))


class WorstMix(unittest.TestCase):
    def test_against_the_words(self):
        rnd = random.Random(2)
        fractions = 0
        for shape in SHAPES:
            for _ in range(6):
                mix = some_mix(rnd, every_graph(len(shape.names)))
                told = worst_mix(shape, mix)
                self.assertEqual(told, slow_worst(shape, mix))
                fractions += isinstance(told[0], tuple)
        self.assertGreater(fractions, 20)

    def test_one_item_is_the_worst_of_it(self):
        for shape in SHAPES:
            for pairs in every_graph(len(shape.names))[::5]:
                self.assertEqual(worst_mix(shape, [(pairs, 1)]), worst(shape, pairs))
                self.assertEqual(worst_mix(shape, [([], 0), (tuple(pairs[::-1]), 1), ([], 0)]), worst(shape, pairs))

    def test_the_durations_that_show_it_and_no_others_show_more(self):
        rnd = random.Random(3)
        for shape in SHAPES:
            many = len(shape.names)
            mix = some_mix(rnd, every_graph(many))
            factor, some = worst_mix(shape, mix)
            self.assertEqual(least_time(shape, on_set(some, many))[0], 1)
            self.assertEqual(mean_time(shape, mix, on_set(some, many)), factor)
            for _ in range(4):
                durations = some_durations(rnd, many)
                least = fraction(least_time(shape, durations)[0])
                self.assertLessEqual(fraction(mean_time(shape, mix, durations)), fraction(factor) * least)

    def test_the_first_set_of_several(self):
        self.assertEqual(worst_mix(THREE, THIRDS), ((4, 3), (0, 1)))
        self.assertEqual(worst_mix(THREE, THIRDS[::-1]), ((4, 3), (0, 1)))
        self.assertEqual(worst_mix(THREE, [([(0, 1)], (1, 2)), ([(0, 2)], (1, 2))]), ((3, 2), (0, 1)))
        self.assertEqual(worst_mix(THREE, [([(0, 1)], (1, 3)), ([(0, 2)], (2, 3))]), ((5, 3), (0, 2)))
        self.assertEqual(worst_mix(THREE, [([], 1)]), (1, (0,)))
        # a set of three is behind all sets of two
        mix = [([(0, 1)], (1, 2)), ([(1, 2)], (1, 2))]
        self.assertEqual(worst_mix(Shape(tuple("abc")), mix), (2, (0, 1, 2)))

    def test_seven(self):
        for shape in (side_by_side(7, 3), side_by_side(7, 7), ring_of_seven()):
            mix = some_mix(random.Random(4), least_graphs(shape)[:10] + [every_pair(7), []])
            self.assertEqual(worst_mix(shape, mix), slow_worst(shape, mix))

    def test_no_mix(self):
        for value, index in wrong_mixes([(0, 1)], [value for value, _ in wrong_graphs()]):
            self.assertEqual(raised(lambda: worst_mix(THREE, value)), (NoMix, {"index": index}))


class Against(unittest.TestCase):
    def test_against_the_words(self):
        rnd = random.Random(5)
        later = 0
        for shape in SHAPES + [some_shape(seed, 5) for seed in range(8)]:
            graphs = least_graphs(shape)
            for _ in range(4):
                sets = some_mix(rnd, allowed(shape))
                told = against(shape, sets)
                self.assertEqual(told, slow_against(graphs, sets))
                later += told[1] != graphs[0]
        self.assertGreater(later, 5)

    def test_no_order_does_better(self):
        rnd = random.Random(6)
        for shape in SHAPES:
            sets = some_mix(rnd, allowed(shape))
            graphs = resolving_graphs(shape, ORDERS[len(shape.names)])
            self.assertEqual(against(shape, sets)[0], slow_against(graphs, sets)[0])

    def test_the_first_graph_of_several(self):
        self.assertEqual(against(THREE, PAIRS), ((4, 3), [(0, 1)]))
        self.assertEqual(against(THREE, [((0, 1), 1)]), (1, [(0, 2)]))
        self.assertEqual(against(THREE, [((0, 2), (1, 2)), ((0, 1), (1, 4)), ((0, 1), (1, 4))]), (1, [(1, 2)]))
        self.assertEqual(against(THREE, [((2,), 0), ((1,), 1)]), (1, [(0, 1)]))
        self.assertEqual(against(FOUR, [((0, 2), 1)]), (1, [(0, 1), (1, 2), (2, 3)]))

    def test_seven(self):
        rnd = random.Random(7)
        for shape in (side_by_side(7, 2), side_by_side(7, 5), ring_of_seven()):
            sets = some_mix(rnd, allowed(shape)[7:])
            self.assertEqual(against(shape, sets), slow_against(least_graphs(shape), sets))

    def test_no_mix(self):
        wrong = odd_values() + [(), [0, 1], [0], (1, 0), (0, 0), (0, True), (False,), (0, 1, 2), (3,), (-1, 0), "01"]
        for value, index in wrong_mixes((0, 1), wrong):
            self.assertEqual(raised(lambda: against(THREE, value)), (NoMix, {"index": index}))
        # ordered, and forbidden
        for some in ((0, 1), (1, 2), (0, 2, 3)):
            self.assertEqual(raised(lambda: against(FOUR, [((0,), 1), (some, 0)])), (NoMix, {"index": 1}))

    def test_no_shape_comes_first(self):
        for function in (worst_mix, against):
            self.assertEqual(raised(lambda: function([], None)), (NoShape, {"part": "shape", "index": -1}))


class Blind(unittest.TestCase):
    def check(self, shape):
        factor, mix, sets = blind(shape)
        graphs = least_graphs(shape)
        for things, told in ((mix, graphs), (sets, allowed(shape))):
            self.assertIs(type(things), list)
            self.assertTrue(all(thing in told and fraction(amount) > 0 for thing, amount in things))
            self.assertEqual(sum(fraction(amount) for _, amount in things), 1)
            self.assertEqual(len({repr(thing) for thing, _ in things}), len(things))
        self.assertEqual(slow_worst(shape, mix), worst_mix(shape, mix))
        self.assertEqual(slow_worst(shape, mix)[0], factor)
        self.assertEqual(slow_against(graphs, sets)[0], factor)
        self.assertEqual(against(shape, sets)[0], factor)
        self.assertIsNone(check_blind(shape, (factor, mix, sets)))
        self.assertLessEqual(fraction(factor), steadiest(shape)[0])
        self.assertEqual(factor == 1, len(graphs) == 1)
        return factor

    def test_small_shapes(self):
        told = {self.check(shape) for shape in SHAPES}
        told |= {self.check(some_shape(seed, many)) for many in (5, 6) for seed in range(25)}
        self.assertLessEqual({1, (3, 2), (4, 3)}, told)

    def test_shapes_of_seven(self):
        self.assertEqual(self.check(side_by_side(7, 1)), 1)
        self.assertEqual(self.check(side_by_side(7, 2)), (10, 7))
        self.assertEqual(self.check(side_by_side(7, 6)), (12, 7))
        self.assertEqual(self.check(side_by_side(7, 7)), 1)
        self.assertEqual(self.check(ring_of_seven()), (9, 7))

    def test_some_dozens_of_least_graphs(self):
        for seed in (2, 46, 50, 64, 110, 121):
            shape = some_shape(seed, 7)
            self.assertTrue(24 <= len(least_graphs(shape)) <= 100)
            self.check(shape)

    def test_no_mix_of_orders_does_better(self):
        rnd = random.Random(8)
        for shape in SHAPES:
            factor = fraction(blind(shape)[0])
            graphs = resolving_graphs(shape, ORDERS[len(shape.names)])
            for _ in range(5):
                self.assertGreaterEqual(fraction(worst_mix(shape, some_mix(rnd, graphs))[0]), factor)
                self.assertLessEqual(fraction(against(shape, some_mix(rnd, allowed(shape)))[0]), factor)

    def test_example(self):
        factor, mix, sets = blind(THREE)
        self.assertEqual(factor, (4, 3))
        self.assertEqual(sorted(mix), THIRDS)
        self.assertEqual(sorted(sets), PAIRS)
        self.assertEqual(worst(THREE, [(0, 1)]), (2, (0, 1)))
        self.assertEqual(steadiest(THREE), (2, [(0, 1)]))


class CheckBlind(unittest.TestCase):
    def refused(self, answer, part, index, shape=THREE):
        self.assertEqual(raised(lambda: check_blind(shape, answer)), (NoBlind, {"part": part, "index": index}))

    def test_it_lets_right_ones_by(self):
        self.assertIsNone(check_blind(THREE, ((4, 3), THIRDS, PAIRS)))
        self.assertIsNone(check_blind(THREE, ((4, 3), THIRDS[::-1], PAIRS[::-1])))
        self.assertIsNone(check_blind(Shape(("a",)), (1, [([], 1)], [((0,), 1)])))
        self.assertIsNone(check_blind(FOUR, (1, [(((2, 3), (1, 2), (0, 1)), 1)], [((3,), (1, 2)), ((0, 3), (1, 2))])))

    def test_amounts_of_0_and_graphs_and_sets_that_come_twice(self):
        mix = THIRDS[:1] + [(((0, 1), (0, 2)), 0), ([(0, 2)], (1, 6)), ([(0, 2)], (1, 6))] + THIRDS[2:]
        sets = PAIRS[1:] + [((0,), 0), ((0, 1), (1, 12)), ((0, 1), (1, 4)), ((0, 1), 0)]
        self.assertIsNone(check_blind(THREE, ((4, 3), mix, sets)))

    def test_graphs_that_are_no_least_ones(self):
        before = [(a, b) for a in (0, 1, 2) for b in (3, 4)]
        shape = Shape(tuple("abcde"), before=before, machines=((2, (1, 1, 1, 0, 0)),))
        mix = [(before + [pair], (1, 3)) for pair in every_pair(3)]
        self.assertIsNone(check_blind(shape, ((4, 3), mix, PAIRS)))
        wider = [(before + [(0, 1), (3, 4)], (1, 3))] + mix[1:]
        self.assertNotIn(sorted(wider[0][0]), least_graphs(shape))
        self.assertIsNone(check_blind(shape, ((4, 3), wider, PAIRS)))
        self.refused(((4, 3), wider[:1] + [(wider[0][0], (1, 3))] + mix[2:], PAIRS), "value", 0, shape)
        self.refused(((5, 3), wider[:1] + [(wider[0][0], (1, 3))] + mix[2:], PAIRS), "value", 1, shape)

    def test_no_answer(self):
        right = ((4, 3), THIRDS, PAIRS)
        for answer in no_rows() + [list(right), right[:2], right + (0,), (), [], "abc", looped(), (None,)]:
            self.refused(answer, "answer", -1)
        for factor in wrong_amounts():
            self.refused((factor, THIRDS, PAIRS), "answer", -1)
            self.refused((factor, None, None), "answer", -1)

    def test_no_mix(self):
        for value, index in wrong_mixes([(0, 1)], [value for value, _ in wrong_graphs()]):
            self.refused(((4, 3), value, None), "mix", index)

    def test_graphs_of_no_order_that_resolves(self):
        self.refused(((4, 3), [([], 1)], PAIRS), "graph", 0)
        self.refused(((4, 3), THIRDS + [([], 0)], None), "graph", 3)
        self.refused(((4, 3), [THIRDS[0], (((), (1, 3))), ([], (1, 3))], None), "graph", 1)
        self.refused((1, [([(1, 2), (2, 3)], 1)], None), "graph", 0, FOUR)
        ring = [(0, 1), (1, 2), (2, 3), (3, 4), (0, 4)]
        whole = every_pair(5)
        self.refused((1, [(whole, (1, 2)), (ring, (1, 2))], None), "graph", 1, side_by_side(5, 4))

    def test_no_sets(self):
        wrong = odd_values() + [(), [0, 1], (1, 0), (0, 0), (0, True), (0, 1, 2), (3,)]
        for value, index in wrong_mixes((0, 1), wrong):
            self.refused(((4, 3), THIRDS, value), "sets", index)

    def test_other_factors(self):
        self.refused((1, THIRDS, PAIRS), "value", 0)
        self.refused(((3, 2), THIRDS, PAIRS), "value", 0)
        self.refused(((4, 3), [([(0, 1)], (1, 2)), ([(0, 2)], (1, 2))], PAIRS), "value", 0)
        self.refused(((3, 2), [([(0, 1)], (1, 2)), ([(0, 2)], (1, 2))], PAIRS), "value", 1)
        self.refused(((4, 3), THIRDS, [((0, 1), 1)]), "value", 1)
        self.refused(((4, 3), THIRDS, [((0, 1), (1, 2)), ((0, 2), (1, 4)), ((1, 2), (1, 4))]), "value", 1)

    def test_what_comes_first(self):
        self.assertEqual(raised(lambda: check_blind(None, None)), (NoShape, {"part": "shape", "index": -1}))
        self.refused((None, None, None), "answer", -1)
        self.refused((0, THIRDS[:2] + [([], 1)], None), "mix", 3)
        self.refused((0, THIRDS[:2] + [([], (1, 3))], None), "graph", 2)
        self.refused((0, THIRDS, PAIRS[:2]), "sets", 2)
        self.refused((0, THIRDS, PAIRS), "value", 0)


if __name__ == "__main__":
    unittest.main()
