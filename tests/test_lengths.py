"""[18], [19], [20]: how long graphs take, the least time, growth, slack."""

import random
import unittest
from fractions import Fraction

from crewlags.errors import NoActivity, NoDurations, NoGraph
from crewlags.graphs import least_graphs, orient
from crewlags.lengths import best_graphs, critical, growth, least_time, longer_at, slack, time_of
from crewlags.orders import graph_of
from crewlags.schedules import earliest, length_of, schedule_faults
from crewlags.shapes import Shape
from tests.support import (
    FOUR, THREE, all_least, cliques, end_of, every_graph, every_order, every_pair, fields, fraction, least_length,
    longest_path, looped, no_rows, number, odd_values, orders_of, ring_of_seven, side_by_side, some_durations,
    some_shape, wrong_amounts,
)

ORDERS = {many: every_order(many) for many in (1, 2, 3, 4)}
GREAT = 10 ** 60


def told_time(pairs, durations):
    """What time_of has to tell, as a Fraction and a set."""
    sums = [(sum(fraction(durations[a]) for a in some), some) for some in cliques(pairs, len(durations))]
    most = max(told for told, _ in sums)
    return most, [some for told, some in sums if told == most][0]


class TimeOf(unittest.TestCase):
    def test_all_graphs_of_small_shapes(self):
        rnd = random.Random(1)
        for many in (1, 2, 3, 4):
            shape = some_shape(many, many)
            for pairs in every_graph(many):
                for _ in range(4):
                    durations = some_durations(rnd, many)
                    most, clique = told_time(pairs, durations)
                    told = list(pairs)
                    rnd.shuffle(told)
                    self.assertEqual(time_of(shape, rnd.choice((list, tuple))(told), durations), (number(most), clique))

    def test_the_first_of_several_greatest_cliques(self):
        shape = Shape(tuple("abcd"))
        pairs = [(0, 1), (0, 2), (1, 2), (2, 3)]
        self.assertEqual(time_of(shape, pairs, (1, 1, 1, 2)), (3, (2, 3)))
        self.assertEqual(time_of(shape, pairs, (1, 1, 1, 3)), (4, (2, 3)))
        self.assertEqual(time_of(shape, pairs, (1, 1, 1, 1)), (3, (0, 1, 2)))
        self.assertEqual(time_of(shape, pairs, (0, 2, 2, 2)), (4, (1, 2)))
        self.assertEqual(time_of(shape, pairs, (0, 0, 0, 3)), (3, (3,)))
        self.assertEqual(time_of(shape, pairs, (2, 0, 0, 2)), (2, (0,)))
        self.assertEqual(time_of(shape, pairs, (0, 0, 0, 0)), (0, (0,)))
        self.assertEqual(time_of(shape, pairs, ((1, 2), (1, 2), 0, 1)), (1, (3,)))

    def test_of_an_order_it_is_the_length_of_the_earliest_schedule(self):
        rnd = random.Random(2)
        for many in (1, 2, 3, 4):
            for seed in range(6):
                shape = some_shape(seed, many)
                for order in orders_of(shape, ORDERS[many]):
                    durations = some_durations(rnd, many)
                    time, clique = time_of(shape, graph_of(shape, order), durations)
                    self.assertEqual(time, length_of(durations, earliest(shape, order, durations)))
                    self.assertEqual(fraction(time), end_of(longest_path(order, durations), durations))
                    self.assertEqual(fraction(time), sum(fraction(durations[a]) for a in clique))

    def test_a_graph_of_no_order(self):
        ring = [(0, 1), (1, 2), (2, 3), (3, 4), (0, 4)]
        self.assertEqual(time_of(Shape(tuple("abcde")), ring, (1, 2, 3, 4, 6)), (10, (3, 4)))

    def test_great_numbers(self):
        self.assertEqual(time_of(THREE, [(0, 1)], (GREAT, (1, GREAT), GREAT)), ((GREAT * GREAT + 1, GREAT), (0, 1)))

    def test_seven(self):
        shape = Shape(tuple("abcdefg"))
        self.assertEqual(time_of(shape, every_pair(7), (1, 2, 3, 4, 5, 6, 7)), (28, (0, 1, 2, 3, 4, 5, 6)))
        self.assertEqual(time_of(shape, every_pair(7), (1, 2, 3, 0, 5, 6, 7)), (24, (0, 1, 2, 4, 5, 6)))
        self.assertEqual(time_of(shape, [], (1, 2, 3, 4, 5, 7, 7)), (7, (5,)))


class LeastTime(unittest.TestCase):
    def test_against_schedules_that_are_found_in_another_way(self):
        rnd = random.Random(3)
        for many, number_of in ((1, 6), (2, 30), (3, 40), (4, 40), (5, 10)):
            for seed in range(number_of):
                shape = some_shape(seed, many)
                durations = some_durations(rnd, many)
                self.assertEqual(fraction(least_time(shape, durations)[0]), least_length(shape, durations))

    def test_what_is_told_belongs_to_the_first_best_graph(self):
        rnd = random.Random(4)
        several = later = 0
        shapes = [some_shape(seed, many) for many in (1, 2, 3, 4) for seed in range(30)]
        shapes += [side_by_side(many, most) for many in (3, 4) for most in (2, 3) for _ in range(8)]
        for shape in shapes:
            many = len(shape.names)
            durations = tuple(rnd.choice((0, 1, 1, 2, (1, 2))) for _ in range(many))
            graphs = all_least(shape, ORDERS[many])
            times = [told_time(pairs, durations)[0] for pairs in graphs]
            best = [pairs for pairs, time in zip(graphs, times) if time == min(times)]
            time, starts, order, clique = least_time(shape, durations)
            self.assertEqual(best_graphs(shape, durations), best)
            self.assertEqual(fraction(time), min(times))
            self.assertEqual(order, orient(shape, best[0]))
            self.assertEqual(starts, earliest(shape, order, durations))
            self.assertEqual((time, clique), time_of(shape, best[0], durations))
            self.assertEqual(schedule_faults(shape, durations, starts), [])
            self.assertEqual(length_of(durations, starts), time)
            several += 1 < len(best) < len(graphs)
            later += best[0] != graphs[0]
        self.assertGreater(min(several, later), 5)

    def test_best_graphs_with_several(self):
        self.assertEqual(best_graphs(THREE, (1, 1, 1)), [[(0, 1)], [(0, 2)], [(1, 2)]])
        self.assertEqual(best_graphs(THREE, (2, 1, 1)), [[(1, 2)]])
        self.assertEqual(best_graphs(THREE, (1, 2, 2)), [[(0, 1)], [(0, 2)]])
        self.assertEqual(best_graphs(THREE, (0, 0, 0)), [[(0, 1)], [(0, 2)], [(1, 2)]])
        self.assertEqual(best_graphs(THREE, ((1, 3), (1, 2), 1)), [[(0, 1)]])

    def test_fractions_and_great_numbers(self):
        self.assertEqual(least_time(THREE, ((1, 2), (1, 3), (1, 6))), ((1, 2), (0, 0, (1, 3)), [(1, 2)], (0,)))
        self.assertEqual(least_time(THREE, ((1, 2), (1, 3), (1, 3))), ((2, 3), (0, 0, (1, 3)), [(1, 2)], (1, 2)))
        self.assertEqual(least_time(THREE, (GREAT, GREAT, 1)), (GREAT + 1, (0, 0, GREAT), [(0, 2)], (0, 2)))

    def test_seven(self):
        durations = (1, 2, 3, 4, 5, 6, 7)
        for most, time in ((1, 28), (2, 14), (3, 10), (4, 7), (5, 7), (6, 7), (7, 7)):
            told, starts, order, clique = least_time(side_by_side(7, most), durations)
            self.assertEqual(told, time)
            self.assertEqual(schedule_faults(side_by_side(7, most), durations, starts), [])
            self.assertEqual(sum(durations[a] for a in clique), time)
            self.assertEqual(earliest(side_by_side(7, most), order, durations), starts)
        self.assertEqual(least_time(Shape(tuple("abcdefg")), durations), (7, (0,) * 7, [], (6,)))
        self.assertEqual(least_time(ring_of_seven(), (1,) * 7)[0], 3)
        self.assertEqual(len(best_graphs(ring_of_seven(), (1,) * 7)), 7)
        self.assertEqual(least_time(ring_of_seven(), (1, 1, 1, 1, 1, 1, 0))[0], 2)

    def test_one_activity(self):
        self.assertEqual(least_time(Shape(("a",)), ((5, 2),)), ((5, 2), (0,), [], (0,)))
        self.assertEqual(best_graphs(Shape(("a",)), (0,)), [[]])

    def test_example(self):
        self.assertEqual(least_time(THREE, (4, 3, 2)), (5, (0, 0, 3), [(1, 2)], (1, 2)))


class LongerAt(unittest.TestCase):
    def test_all_graphs_of_four(self):
        shape = some_shape(1, 4)
        graphs = every_graph(4)
        rnd = random.Random(6)
        for one in graphs:
            for other in rnd.sample(graphs, 20):
                told = longer_at(shape, tuple(one), other[::-1])
                more = [pair for pair in one if pair not in other]
                if not more:
                    self.assertIsNone(told)
                    continue
                self.assertEqual(told, tuple(1 if a in more[0] else 0 for a in range(4)))
                self.assertEqual(time_of(shape, one, told)[0], 2)
                self.assertEqual(time_of(shape, other, told)[0], 1)

    def test_one_without_more_pairs_is_never_longer(self):
        rnd = random.Random(7)
        shape = Shape(tuple("abcde"))
        for _ in range(100):
            other = rnd.sample(every_pair(5), rnd.randint(0, 10))
            one = rnd.sample(other, rnd.randint(0, len(other)))
            self.assertIsNone(longer_at(shape, sorted(one), sorted(other)))
            durations = some_durations(rnd, 5)
            self.assertLessEqual(
                fraction(time_of(shape, one, durations)[0]), fraction(time_of(shape, other, durations)[0]),
            )

    def test_the_first_pair_in_ascending_order(self):
        shape = Shape(tuple("abcd"))
        self.assertEqual(longer_at(shape, [(2, 3), (1, 3), (0, 2)], [(0, 2)]), (0, 1, 0, 1))
        self.assertEqual(longer_at(shape, [(2, 3), (1, 3), (0, 3)], [(0, 2)]), (1, 0, 0, 1))

    def test_example(self):
        self.assertEqual(longer_at(THREE, [(0, 1), (1, 2)], [(0, 1)]), (0, 1, 1))
        self.assertIsNone(longer_at(THREE, [(0, 1)], [(0, 1), (1, 2)]))


class Growth(unittest.TestCase):
    def test_against_the_least_time(self):
        rnd = random.Random(8)
        numbers = set()
        for many in (1, 2, 3, 4, 5):
            for seed in range(16):
                shape = some_shape(seed, many)
                durations = some_durations(rnd, many)
                a = rnd.randrange(many)
                pieces = growth(shape, durations, a)
                self.check(shape, durations, a, pieces)
                numbers.add(len(pieces))
        self.assertLessEqual({1, 2, 4}, numbers)

    def check(self, shape, durations, a, pieces):
        self.assertEqual(pieces[0][0], 0)
        self.assertEqual(pieces[-1][2], 1)
        starts = [fraction(start) for start, _, _ in pieces]
        self.assertEqual(starts, sorted(set(starts)))
        for one, other in zip(pieces, pieces[1:]):
            self.assertEqual({one[2], other[2]}, {0, 1})
        for at, (start, time, slope) in enumerate(pieces):
            self.assertIn(slope, (0, 1))
            end = starts[at + 1] if at + 1 < len(pieces) else starts[at] + 3
            for length in (starts[at], (2 * starts[at] + end) / 3, (starts[at] + 9 * end) / 10, end):
                told = least_time(shape, durations[:a] + (number(length),) + durations[a + 1:])[0]
                self.assertEqual(fraction(told), fraction(time) + slope * (length - starts[at]), (durations, a, pieces))

    def test_the_duration_itself_does_not_count(self):
        for duration in (0, 1, (7, 3), GREAT):
            self.assertEqual(growth(THREE, (duration, 3, 2), 0), [(0, 3, 0), (1, 3, 1), (3, 5, 0), (5, 5, 1)])
            self.assertEqual(growth(THREE, (3, duration, 2), 1), [(0, 3, 0), (1, 3, 1), (3, 5, 0), (5, 5, 1)])

    def test_one_piece(self):
        self.assertEqual(growth(Shape(("a",)), (5,), 0), [(0, 0, 1)])
        self.assertEqual(growth(side_by_side(2, 1), (5, 3), 0), [(0, 3, 1)])
        self.assertEqual(growth(THREE, (5, 0, 0), 0), [(0, 0, 1)])

    def test_two_pieces(self):
        self.assertEqual(growth(side_by_side(2, 2), (5, 3), 0), [(0, 3, 0), (3, 3, 1)])
        self.assertEqual(growth(side_by_side(2, 2), (5, (3, 4)), 0), [(0, (3, 4), 0), ((3, 4), (3, 4), 1)])

    def test_a_first_piece_that_grows_and_a_second_that_does_not(self):
        self.assertEqual(growth(THREE, (9, 2, 2), 0), [(0, 2, 1), (2, 4, 0), (4, 4, 1)])

    def test_fractions_and_great_numbers(self):
        told = [(0, (1, 2), 0), ((1, 6), (1, 2), 1), ((1, 2), (5, 6), 0), ((5, 6), (5, 6), 1)]
        self.assertEqual(growth(THREE, (1, (1, 2), (1, 3)), 0), told)
        told = [(0, GREAT, 0), (GREAT - 1, GREAT, 1), (GREAT, GREAT + 1, 0), (GREAT + 1, GREAT + 1, 1)]
        self.assertEqual(growth(THREE, (1, GREAT, 1), 0), told)

    def test_seven(self):
        durations = (7, 6, 5, 4, 3, 2, 1)
        self.assertEqual(growth(side_by_side(7, 1), durations, 3), [(0, 24, 1)])
        self.assertEqual(growth(side_by_side(7, 7), durations, 3), [(0, 7, 0), (7, 7, 1)])
        self.check(side_by_side(7, 5), durations, 3, growth(side_by_side(7, 5), durations, 3))
        self.check(ring_of_seven(), durations, 3, growth(ring_of_seven(), durations, 3))
        # the others can be parted into any two sums that are together 21
        told = [piece for less in range(10, -1, -1) for piece in (
            (20 - 2 * less, 21 - less, 0), (21 - 2 * less, 21 - less, 1),
        )]
        self.assertEqual(growth(side_by_side(7, 2), durations, 0), told)

    def test_example(self):
        self.assertEqual(growth(THREE, (4, 3, 2), 0), [(0, 3, 0), (1, 3, 1), (3, 5, 0), (5, 5, 1)])


class Slack(unittest.TestCase):
    def test_the_least_time_stays_up_to_it_and_no_further(self):
        rnd = random.Random(9)
        zero = above = 0
        for many in (1, 2, 3, 4, 5):
            for seed in range(12):
                shape = some_shape(seed, many)
                durations = some_durations(rnd, many)
                time = least_time(shape, durations)[0]
                slacks = []
                for a in range(many):
                    told = fraction(slack(shape, durations, a))
                    slacks.append(told)
                    for more, same in ((told, True), (told / 2, True), (told + Fraction(1, 1000), False)):
                        longer = list(durations)
                        longer[a] = number(fraction(durations[a]) + more)
                        self.assertEqual(least_time(shape, tuple(longer))[0] == time, same)
                self.assertEqual(critical(shape, durations), [a for a in range(many) if slacks[a] == 0])
                zero += slacks.count(0)
                above += len(slacks) - slacks.count(0)
        self.assertGreater(min(zero, above), 20)

    def test_values(self):
        self.assertEqual([slack(THREE, (4, 3, 2), a) for a in range(3)], [1, 0, 0])
        self.assertEqual([slack(THREE, (5, 3, 2), a) for a in range(3)], [0, 0, 0])
        self.assertEqual([slack(THREE, (6, 3, (3, 2)), a) for a in range(3)], [0, (3, 2), (3, 2)])
        self.assertEqual(slack(side_by_side(2, 2), (GREAT, 0), 1), GREAT)
        self.assertEqual(slack(side_by_side(2, 2), ((1, 2), (1, 3)), 1), (1, 6))
        self.assertEqual(slack(Shape(("a",)), (0,), 0), 0)

    def test_none_or_all_are_critical(self):
        self.assertEqual(critical(side_by_side(4, 1), (1, 0, 2, 3)), [0, 1, 2, 3])
        self.assertEqual(critical(side_by_side(3, 3), (1, 2, 2)), [1, 2])
        self.assertEqual(critical(THREE, (0, 0, 0)), [0, 1, 2])
        # each of the three can be put beside the other two
        self.assertEqual(critical(THREE, (1, 1, 1)), [])

    def test_seven(self):
        durations = (7, 6, 5, 4, 3, 2, 1)
        self.assertEqual(critical(side_by_side(7, 1), durations), [0, 1, 2, 3, 4, 5, 6])
        self.assertEqual(critical(side_by_side(7, 7), durations), [0])
        # all fit into four rows of 7, with nothing left
        self.assertEqual(critical(side_by_side(7, 4), durations), [0, 1, 2, 3, 4, 5, 6])
        self.assertEqual(slack(side_by_side(7, 7), durations, 6), 6)
        self.assertEqual(slack(side_by_side(7, 5), durations, 6), 6)
        self.assertEqual(slack(side_by_side(7, 5), durations, 1), 1)

    def test_example(self):
        self.assertEqual(slack(THREE, (4, 3, 2), 0), 1)
        self.assertEqual(critical(THREE, (4, 3, 2)), [1, 2])


class WrongArguments(unittest.TestCase):
    def calls(self, durations):
        return [
            lambda: time_of(THREE, [], durations), lambda: least_time(THREE, durations),
            lambda: best_graphs(THREE, durations), lambda: growth(THREE, durations, None),
            lambda: slack(THREE, durations, None), lambda: critical(THREE, durations),
        ]

    def test_durations_that_are_no_tuple_of_so_many(self):
        wrong = no_rows() + [[1, 2, 3], [], (), "123", (1, 2), (1, 2, 3, 4), (None,) * 4, looped(), {0: 1, 1: 1, 2: 1}]
        for value in wrong:
            for call in self.calls(value):
                self.refused(NoDurations, {"index": -1}, call)

    def test_the_first_duration_that_is_no_amount(self):
        for value in wrong_amounts():
            for durations, at in (((value, 1, value), 0), ((1, (1, 2), value), 2)):
                for call in self.calls(durations):
                    self.refused(NoDurations, {"index": at}, call)

    def test_activities(self):
        for value in odd_values() + [3, 7, "0", (0,), [0], (0, 1)]:
            for function in (growth, slack):
                with self.assertRaises(NoActivity) as caught:
                    function(THREE, (1, 2, 3), value)
                self.assertEqual(list(vars(caught.exception)), ["one"])
                self.assertIs(caught.exception.one, value)

    def test_a_graph_comes_ahead_of_durations(self):
        self.refused(NoGraph, {"index": 0}, lambda: time_of(THREE, [(1, 0)], None))
        self.refused(NoGraph, {"index": -1}, lambda: time_of(THREE, None, None))
        self.refused(NoGraph, {"index": 0}, lambda: time_of(FOUR, [(1, 4)], (1, 2)))

    def refused(self, kind, told, call):
        with self.assertRaises(kind) as caught:
            call()
        self.assertEqual(fields(caught.exception), told)


class Facts(unittest.TestCase):
    def test_the_least_time_is_that_of_the_least_graphs(self):
        rnd = random.Random(10)
        for seed in range(6):
            shape = some_shape(seed, 6)
            graphs = least_graphs(shape)
            for _ in range(3):
                durations = some_durations(rnd, 6)
                times = [fraction(time_of(shape, pairs, durations)[0]) for pairs in graphs]
                self.assertEqual(fraction(least_time(shape, durations)[0]), min(times))


if __name__ == "__main__":
    unittest.main()
