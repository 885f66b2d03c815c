"""[38] to [42]: what holds for all durations of a box."""

import random
import unittest
from fractions import Fraction
from itertools import product

from crewlags.boxes import always_best, calmest, least_and_greatest, on_greatest, regret
from crewlags.errors import NoBox, NoGraph, NoShape
from crewlags.graphs import graph_fault, least_graphs
from crewlags.lengths import best_graphs, least_time, time_of
from crewlags.shapes import Shape
from tests.support import (
    FOUR, THREE, cliques, closure, every_order, every_pair, fraction, greatest, is_forbidden, looped, no_rows, number,
    odd_values, raised, resolving_graphs, ring_of_seven, side_by_side, slow_time, some_amount, some_shape, wrong_amounts,
    wrong_graphs,
)

ORDERS = {many: every_order(many) for many in (1, 2, 3, 4)}
SHAPES = [some_shape(seed, many) for many in (1, 2, 3, 4) for seed in range(10)] + [side_by_side(4, 2)]
BOX = ((1, 2), (1, 3), (1, 1))
GREAT = 10 ** 60


def some_span(rnd):
    """Two amounts, the first at most the second; often the same, or low 0."""
    low, high = sorted((some_amount(rnd), some_amount(rnd)), key=fraction)
    return rnd.choice(((low, high), (low, high), (low, low), (0, high)))


def some_box(rnd, many):
    """A box of so many activities."""
    return tuple(some_span(rnd) for _ in range(many))


def corners(box):
    """All corners of a box."""
    return sorted(set(product(*box)), key=repr)


def within(rnd, box):
    """Durations drawn within a box."""
    told = []
    for low, high in box:
        part = Fraction(rnd.randint(0, 4), 4)
        told.append(number(fraction(low) + (fraction(high) - fraction(low)) * part))
    return tuple(told)


def scaled(box, factor):
    """A box with all its numbers multiplied."""
    return tuple((number(fraction(low) * factor), number(fraction(high) * factor)) for low, high in box)


def least(shape, durations):
    """The least time, as a Fraction."""
    return fraction(least_time(shape, durations)[0])


def slow_regret(shape, pairs, box):
    """What regret has to tell, by all corners."""
    more = max(slow_time(pairs, durations) - least(shape, durations) for durations in corners(box))
    for some in greatest(cliques(pairs, len(box))):
        durations = tuple(high if a in some else low for a, (low, high) in enumerate(box))
        if sum(fraction(durations[a]) for a in some) - least(shape, durations) == more:
            return number(more), durations, some
    return None


def slow_on_greatest(pairs, box):
    """What on_greatest has to tell, by all corners."""
    many = len(box)
    rows = []
    for durations in corners(box):
        time = slow_time(pairs, durations)
        told = [some for some in cliques(pairs, many) if sum(fraction(durations[a]) for a in some) == time]
        rows.append({a for some in told for a in some})
    return tuple(sorted(set().union(*rows))), tuple(a for a in range(many) if all(a in row for row in rows))


class LeastAndGreatest(unittest.TestCase):
    def test_against_all_corners(self):
        rnd = random.Random(1)
        for shape in SHAPES:
            box = some_box(rnd, len(shape.names))
            low, high = least_and_greatest(shape, box)
            times = [least(shape, durations) for durations in corners(box)]
            self.assertEqual((fraction(low), fraction(high)), (min(times), max(times)))
            for _ in range(3):
                self.assertTrue(fraction(low) <= least(shape, within(rnd, box)) <= fraction(high))

    def test_numbers(self):
        self.assertEqual(least_and_greatest(THREE, BOX), (2, 3))
        self.assertEqual(least_and_greatest(THREE, (((1, 2), (2, 3)),) * 3), (1, (4, 3)))
        self.assertEqual(least_and_greatest(THREE, ((0, 0), (0, 0), (0, 0))), (0, 0))
        self.assertEqual(least_and_greatest(THREE, ((0, GREAT),) * 3), (0, 2 * GREAT))
        self.assertEqual(least_and_greatest(Shape(("a",)), (((1, 3), (1, 2)),)), ((1, 3), (1, 2)))

    def test_seven(self):
        box = tuple((a % 3, a + 2) for a in range(7))
        for shape in [side_by_side(7, most) for most in range(1, 8)] + [ring_of_seven()]:
            told = tuple(least_time(shape, tuple(span[at] for span in box))[0] for at in (0, 1))
            self.assertEqual(least_and_greatest(shape, box), told)


class Regret(unittest.TestCase):
    def test_against_all_corners(self):
        rnd = random.Random(2)
        seen = set()
        for shape in SHAPES:
            many = len(shape.names)
            graphs = resolving_graphs(shape, ORDERS[many])
            for pairs in rnd.sample(graphs, min(3, len(graphs))) + least_graphs(shape)[:2]:
                box = some_box(rnd, many)
                told = regret(shape, rnd.choice((list, tuple))(pairs[::-1]), box)
                self.assertEqual(told, slow_regret(shape, pairs, box))
                seen.add((len(told[2]), told[0] == 0, isinstance(told[0], tuple)))
        self.assertGreater(len(seen), 6)

    def test_no_durations_of_the_box_show_more(self):
        rnd = random.Random(3)
        for shape in SHAPES:
            box = some_box(rnd, len(shape.names))
            for pairs in least_graphs(shape)[:3]:
                more = fraction(regret(shape, pairs, box)[0])
                for _ in range(5):
                    durations = within(rnd, box)
                    self.assertLessEqual(slow_time(pairs, durations) - least(shape, durations), more)

    def test_the_corner_shows_it(self):
        rnd = random.Random(4)
        for seed in range(12):
            shape = some_shape(seed, 6)
            box = some_box(rnd, 6)
            for pairs in least_graphs(shape)[:4]:
                more, durations, clique = regret(shape, pairs, box)
                time = fraction(time_of(shape, pairs, durations)[0])
                self.assertEqual(time - least(shape, durations), fraction(more))
                self.assertEqual(time, sum(fraction(durations[a]) for a in clique))
                self.assertIn(clique, greatest(cliques(pairs, 6)))

    def test_the_first_clique_of_several(self):
        box = ((0, 1), (0, 1), (0, 1), (0, 1))
        shape = side_by_side(4, 3)
        self.assertEqual(regret(shape, [(0, 1), (2, 3)], box), (1, (1, 1, 0, 0), (0, 1)))
        self.assertEqual(regret(shape, [(1, 2), (0, 3)], box), (1, (1, 0, 0, 1), (0, 3)))
        self.assertEqual(regret(shape, [(1, 2), (0, 3)], ((0, 1), (0, 1), (0, 2), (0, 1))), (1, (1, 0, 0, 1), (0, 3)))
        self.assertEqual(regret(shape, [(1, 2), (0, 3)], ((0, 1), (0, 2), (0, 2), (0, 1))), (2, (0, 2, 2, 0), (1, 2)))
        # fewest members first: that of one comes ahead of that of two
        shape = Shape(("a", "b", "c"), machines=((1, (0, 1, 1)),))
        self.assertEqual(regret(shape, [(1, 2)], ((0, 3), (0, 1), (1, 1))), (0, (3, 0, 1), (0,)))
        self.assertEqual(regret(shape, [(1, 2)], ((0, 0), (0, 1), (1, 1))), (0, (0, 1, 1), (1, 2)))

    def test_example(self):
        self.assertEqual(regret(THREE, [(0, 1)], BOX), (2, (2, 3, 1), (0, 1)))
        self.assertEqual(regret(THREE, [(0, 2)], BOX), (1, (2, 1, 1), (0, 2)))

    def test_the_durations_are_those_of_the_box(self):
        box = (((1, 3), (1, 2)), (1, (7, 5)), (0, GREAT))
        more, durations, clique = regret(THREE, [(0, 2)], box)
        self.assertEqual(durations, ((1, 2), 1, GREAT))
        self.assertEqual(clique, (0, 2))
        self.assertEqual(more, (1, 2))

    def test_seven(self):
        box = tuple((0, 1) for _ in range(7))
        for most in range(1, 8):
            shape = side_by_side(7, most)
            self.assertEqual(regret(shape, every_pair(7), box), (7 - -(-7 // most), (1,) * 7, tuple(range(7))))
        shape = ring_of_seven()
        self.assertEqual(regret(shape, every_pair(7), box), (7 - 3, (1,) * 7, tuple(range(7))))

    def test_no_graph(self):
        for value, index in wrong_graphs():
            for box in (BOX, None):
                self.both(THREE, value, box, NoGraph, index)
        self.both(THREE, [], BOX, NoGraph, 0)
        self.both(THREE, (), None, NoGraph, 0)
        self.both(FOUR, [(0, 1)], None, NoGraph, 1)
        self.both(FOUR, [(1, 2), (2, 3)], None, NoGraph, 2)
        ring = [(0, 1), (1, 2), (2, 3), (3, 4), (0, 4)]
        self.both(Shape(tuple("abcde")), ring, None, NoGraph, 5)
        # the graph of no order of the shape, though no forbidden set is free in it
        before = ((0, 1), (2, 3))
        shape = Shape(tuple("abcde"), before=before, machines=((1, (1, 1, 0, 0, 0)),))
        self.assertEqual(graph_fault(shape, ring), ("order", ()))
        self.both(shape, ring, ((0, 1),) * 5, NoGraph, 5)

    def test_no_box_comes_last(self):
        self.both(THREE, [(0, 1)], None, NoBox, -1)
        self.both(THREE, [(0, 1)], ((0, 1), (2, 1), None), NoBox, 1)

    def both(self, shape, pairs, box, kind, index):
        for function in (regret, on_greatest):
            self.assertEqual(raised(lambda: function(shape, pairs, box)), (kind, {"index": index}))


class Calmest(unittest.TestCase):
    def test_against_regret(self):
        rnd = random.Random(5)
        seen = set()
        for shape in SHAPES + [some_shape(seed, 6) for seed in range(10)]:
            graphs = least_graphs(shape)[:60]
            if len(graphs) == 60:
                continue
            box = some_box(rnd, len(shape.names))
            regrets = [fraction(regret(shape, pairs, box)[0]) for pairs in graphs]
            told = (number(min(regrets)), [one for one, more in zip(graphs, regrets) if more == min(regrets)])
            self.assertEqual(calmest(shape, box), told)
            self.assertEqual(always_best(shape, box), [one for one, more in zip(graphs, regrets) if more == 0])
            seen.add((min(regrets) > 0, len(told[1]) > 1, len(told[1]) < len(graphs)))
        self.assertGreater(len(seen), 2)

    def test_no_graph_that_resolves_is_calmer(self):
        rnd = random.Random(6)
        for shape in SHAPES[20:]:
            many = len(shape.names)
            box = some_box(rnd, many)
            graphs = resolving_graphs(shape, ORDERS[many])
            some = rnd.sample(graphs, min(12, len(graphs)))
            more = fraction(calmest(shape, box)[0])
            self.assertTrue(all(fraction(regret(shape, pairs, box)[0]) >= more for pairs in some))

    def test_examples(self):
        self.assertEqual(calmest(THREE, BOX), (1, [[(0, 2)], [(1, 2)]]))
        self.assertEqual(always_best(THREE, BOX), [])
        self.assertEqual(always_best(THREE, ((3, 4), (0, 1), (0, 2))), [[(1, 2)]])
        self.assertEqual(calmest(THREE, ((3, 4), (0, 1), (0, 2))), (0, [[(1, 2)]]))
        self.assertEqual(always_best(THREE, ((0, 5), (0, 0), (0, 5))), [[(0, 1)], [(1, 2)]])
        self.assertEqual(calmest(THREE, scaled(BOX, Fraction(1, 3))), ((1, 3), [[(0, 2)], [(1, 2)]]))

    def test_a_box_of_one_point(self):
        rnd = random.Random(7)
        for shape in SHAPES:
            durations = tuple(some_amount(rnd) for _ in shape.names)
            box = tuple((one, one) for one in durations)
            self.assertEqual(always_best(shape, box), best_graphs(shape, durations))
            self.assertEqual(calmest(shape, box), (0, best_graphs(shape, durations)))

    def test_seven(self):
        box = tuple((0, 1) for _ in range(7))
        # in which of the groups two are has to be known ahead
        more, graphs = calmest(side_by_side(7, 6), box)
        self.assertEqual((more, len(graphs)), (1, 21))
        self.assertEqual(calmest(side_by_side(7, 7), box), (0, [[]]))
        self.assertEqual(calmest(side_by_side(7, 1), box), (0, [every_pair(7)]))
        for most in (2, 3, 4, 5):
            shape = side_by_side(7, most)
            spread = tuple((a, a + a % 2) for a in range(7))
            more, graphs = calmest(shape, spread)
            told = regret(shape, graphs[0], spread)
            self.assertEqual(told[0], more)
            every = least_graphs(shape)
            self.assertTrue(all(pairs in every for pairs in graphs))
        more, graphs = calmest(ring_of_seven(), box)
        self.assertEqual(regret(ring_of_seven(), graphs[-1], box)[0], more)


class OnGreatest(unittest.TestCase):
    def test_against_all_corners(self):
        rnd = random.Random(8)
        seen = set()
        for shape in SHAPES:
            many = len(shape.names)
            graphs = resolving_graphs(shape, ORDERS[many])
            for pairs in rnd.sample(graphs, min(3, len(graphs))) + least_graphs(shape)[:2]:
                box = some_box(rnd, many)
                told = on_greatest(shape, rnd.choice((list, tuple))(pairs[::-1]), box)
                self.assertEqual(told, slow_on_greatest(pairs, box))
                seen.add((len(told[0]), len(told[1])))
        self.assertGreater(len(seen), 8)

    def test_durations_within_the_box(self):
        rnd = random.Random(9)
        for seed in range(10):
            shape = some_shape(seed, 5)
            box = some_box(rnd, 5)
            for pairs in least_graphs(shape)[:3]:
                some_time, always = on_greatest(shape, pairs, box)
                for _ in range(4):
                    durations = within(rnd, box)
                    time = slow_time(pairs, durations)
                    sums = [(sum(fraction(durations[a]) for a in some), some) for some in cliques(pairs, 5)]
                    critical = {a for told, some in sums if told == time for a in some}
                    self.assertLessEqual(set(always), critical)
                    self.assertLessEqual(critical, set(some_time))

    def test_examples(self):
        self.assertEqual(on_greatest(THREE, [(0, 2)], BOX), ((0, 1, 2), ()))
        self.assertEqual(on_greatest(THREE, [(0, 1)], BOX), ((0, 1), (0, 1)))
        self.assertEqual(on_greatest(THREE, [(0, 1)], ((0, 0), (0, 1), (1, 1))), ((0, 1, 2), (2,)))
        self.assertEqual(on_greatest(THREE, [(0, 1)], ((0, 0), (0, 1), (2, 2))), ((2,), (2,)))
        self.assertEqual(on_greatest(THREE, [(0, 1)], ((0, 0), (0, 0), (0, 0))), ((0, 1, 2), (0, 1, 2)))

    def test_an_activity_that_is_in_different_cliques(self):
        # b is in both pairs: whichever is longer, b is in it
        shape = Shape(("a", "b", "c"), machines=((1, (1, 1, 0)), (1, (0, 1, 1))))
        self.assertEqual(on_greatest(shape, [(0, 1), (1, 2)], ((1, 3), (1, 1), (2, 4))), ((0, 1, 2), (1,)))

    def test_seven(self):
        box = tuple((0, 1) for _ in range(7))
        whole = tuple(range(7))
        self.assertEqual(on_greatest(side_by_side(7, 1), every_pair(7), box), (whole, whole))
        self.assertEqual(on_greatest(side_by_side(7, 7), [], box), (whole, ()))
        self.assertEqual(on_greatest(side_by_side(7, 6), [(2, 5)], box), (whole, ()))
        self.assertEqual(on_greatest(side_by_side(7, 6), [(2, 5)], ((1, 2),) * 7), (whole, (2, 5)))
        self.assertEqual(on_greatest(side_by_side(7, 6), [(2, 5)], ((2, 3),) * 7), ((2, 5), (2, 5)))
        pairs = least_graphs(ring_of_seven())[0]
        self.assertEqual(on_greatest(ring_of_seven(), pairs, box), slow_on_greatest(pairs, box))


class Boxes(unittest.TestCase):
    def refused(self, box, index):
        told = (NoBox, {"index": index})
        for call in (
            lambda: least_and_greatest(THREE, box), lambda: calmest(THREE, box), lambda: always_best(THREE, box),
            lambda: regret(THREE, [(0, 1)], box), lambda: on_greatest(THREE, [(0, 1)], box),
        ):
            self.assertEqual(raised(call), told)

    def test_no_tuple_of_as_many_items(self):
        for value in no_rows() + [list(BOX), BOX[:2], BOX + BOX[:1], (), [], "abc", looped(), (None,), (None,) * 4]:
            self.refused(value, -1)

    def test_the_first_that_is_none(self):
        wrong = odd_values() + [
            [1, 2], (1,), (1, 2, 3), (), (2, 1), ((1, 2), (1, 3)), (1, (2, 3)), ((3, 2), 1), (True, 1), (0, True), (0, None),
            (0, -1), (-1, 0), ("0", "1"), {0: 1}, ((2, 4), 1), (0, (2, 4)), (0, [1]), ((GREAT + 1, GREAT), 1), "01", b"01",
        ]
        for value in wrong:
            self.refused((value, value, value), 0)
            self.refused((BOX[0], value, None), 1)
            self.refused((((1, 3), (1, 2)), (0, 0), value), 2)
        for value in wrong_amounts():
            self.refused(((0, 1), (value, value), (0, 1)), 1)
            self.refused(((0, 1), (0, value), (0, 1)), 1)

    def test_low_may_be_high(self):
        same = (((1, 3), (1, 3)), (0, 0), (GREAT, GREAT))
        self.assertEqual(least_and_greatest(THREE, same), (GREAT, GREAT))

    def test_no_shape(self):
        for value in odd_values() + [(), [], "abc"]:
            if isinstance(value, Shape):
                continue
            for call in (
                lambda: least_and_greatest(value, None), lambda: calmest(value, None), lambda: always_best(value, None),
                lambda: regret(value, None, None), lambda: on_greatest(value, None, None),
            ):
                self.assertEqual(raised(call), (NoShape, {"part": "shape", "index": -1}))


class Facts(unittest.TestCase):
    def test_one_point(self):
        rnd = random.Random(10)
        for shape in SHAPES:
            durations = tuple(some_amount(rnd) for _ in shape.names)
            box = tuple((one, one) for one in durations)
            for pairs in resolving_graphs(shape, ORDERS[len(durations)])[:6]:
                is_least = slow_time(pairs, durations) == least(shape, durations)
                self.assertEqual(regret(shape, pairs, box)[0] == 0, is_least)

    def test_in_a_larger_box_no_regret_is_less(self):
        rnd = random.Random(11)
        for shape in SHAPES:
            box = some_box(rnd, len(shape.names))
            larger = tuple((0, number(fraction(high) + rnd.randint(0, 2))) for _, high in box)
            for pairs in least_graphs(shape)[:4]:
                self.assertLessEqual(
                    fraction(regret(shape, pairs, box)[0]), fraction(regret(shape, pairs, larger)[0])
                )

    def test_multiplied(self):
        rnd = random.Random(12)
        for shape in SHAPES:
            box = some_box(rnd, len(shape.names))
            for factor in (2, Fraction(2, 7), GREAT):
                more = scaled(box, factor)
                for pairs in least_graphs(shape)[:3]:
                    told, longer = regret(shape, pairs, box), regret(shape, pairs, more)
                    self.assertEqual(fraction(longer[0]), fraction(told[0]) * factor)
                    self.assertEqual(longer[2], told[2])
                self.assertEqual(calmest(shape, more)[1], calmest(shape, box)[1])
                self.assertEqual(always_best(shape, more), always_best(shape, box))

    def test_low_0_everywhere(self):
        rnd = random.Random(13)
        seen = 0
        for shape in SHAPES + [some_shape(seed, 5) for seed in range(6)]:
            many = len(shape.names)
            box = tuple((0, rnd.choice((0, 1, 2, (1, 2)))) for _ in range(many))
            for pairs in least_graphs(shape)[:6]:
                if regret(shape, pairs, box)[0] == 0:
                    seen += 1
                    for a, b in pairs:
                        apart = not any((a, b) == tuple(sorted(pair)) for pair in closure(shape.before))
                        if apart and not is_forbidden(shape, (a, b)):
                            self.assertIn(0, (box[a][1], box[b][1]))
        self.assertGreater(seen, 20)


if __name__ == "__main__":
    unittest.main()
