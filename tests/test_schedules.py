"""[16], [17]: what overlaps, what keeps a shape, earliest schedules, the orders of schedules."""

import random
import unittest
from fractions import Fraction
from itertools import permutations

from crewlags.errors import NoDurations, NoOrder, NoSchedule, NoStarts
from crewlags.orders import is_order, unresolved
from crewlags.schedules import earliest, length_of, overlapping, schedule_faults, schedule_graph, schedule_order
from crewlags.shapes import Shape
from tests.support import (
    FOUR, THREE, closure, end_of, every_order, every_pair, faults, fields, fraction, longest_path, looped, no_rows,
    number, odd_values, orders_of, overlap, placed, side_by_side, some_durations, some_shape, wrong_amounts,
)

ORDERS = {many: every_order(many) for many in (1, 2, 3, 4)}
GREAT = 10 ** 60


def some_schedules(seed, number_of):
    """Shapes with durations and starts, some of which keep the shape."""
    rnd = random.Random(seed)
    for _ in range(number_of):
        shape = some_shape(rnd.random(), rnd.randint(1, 5))
        many = len(shape.names)
        durations = some_durations(rnd, many)
        kind = rnd.randint(0, 2)
        if kind == 0:
            yield shape, durations, some_durations(rnd, many)
        else:
            yield shape, durations, some_kept(rnd, shape, durations, kind == 2)


def some_kept(rnd, shape, durations, late):
    """Starts that keep the shape; some of them may be moved."""
    many = len(shape.names)
    rows = [row for row in permutations(range(many)) if all(row.index(a) < row.index(b) for a, b in shape.before)]
    starts = placed(shape, rnd.choice(rows), durations)
    if late:
        starts = [start * 2 + Fraction(rnd.randint(0, 2), 3) for start in starts]
    return tuple(number(start) for start in starts)


class Overlapping(unittest.TestCase):
    def test_against_the_words(self):
        for _, durations, starts in some_schedules(1, 200):
            pairs = every_pair(len(durations))
            told = [pair for pair in pairs if overlap(durations, starts, *pair)]
            self.assertEqual(overlapping(durations, starts), told)
            self.assertEqual(schedule_graph(durations, starts), [pair for pair in pairs if pair not in told])
            ends = [fraction(start) + fraction(duration) for start, duration in zip(starts, durations)]
            self.assertEqual(length_of(durations, starts), number(max(ends)))

    def test_a_duration_of_0(self):
        for start, told in ((0, []), (1, [(0, 1)]), ((1, 2), [(0, 1)]), (2, [(0, 1)]), (3, []), (4, []), ((17, 6), [(0, 1)])):
            self.assertEqual(overlapping((3, 0), (0, start)), told)
            self.assertEqual(overlapping((0, 3), (start, 0)), told)
            self.assertEqual(schedule_graph((3, 0), (0, start)), [] if told else [(0, 1)])

    def test_two_durations_of_0(self):
        self.assertEqual(overlapping((0, 0), (2, 2)), [])
        self.assertEqual(overlapping((0, 0, 4), (2, 2, 0)), [(0, 2), (1, 2)])
        self.assertEqual(schedule_graph((0, 0), (2, 2)), [(0, 1)])

    def test_one_that_ends_as_another_begins(self):
        self.assertEqual(overlapping((2, 2), (0, 2)), [])
        self.assertEqual(overlapping((2, 2), (2, 0)), [])
        self.assertEqual(overlapping((2, 2), (0, (3, 2))), [(0, 1)])
        self.assertEqual(overlapping((2, 2), (1, 1)), [(0, 1)])

    def test_fractions(self):
        self.assertEqual(overlapping(((1, 3), (1, 6)), (0, (1, 3))), [])
        self.assertEqual(overlapping(((1, 3), (1, 6)), (0, (333333, 1000000))), [(0, 1)])
        self.assertEqual(length_of(((1, 3), (1, 6)), (0, (1, 3))), (1, 2))
        self.assertEqual(length_of(((1, 3), (2, 3)), (0, (1, 3))), 1)
        self.assertEqual(length_of(((3, 2),), ((5, 2),)), 4)

    def test_great_numbers(self):
        self.assertEqual(overlapping((GREAT, 1), (0, GREAT - 1)), [(0, 1)])
        self.assertEqual(overlapping((GREAT, 1), (0, GREAT)), [])
        self.assertEqual(length_of((GREAT, (1, GREAT)), (1, GREAT)), GREAT + 1)
        self.assertEqual(length_of((1, (1, GREAT)), (1, GREAT)), (GREAT * GREAT + 1, GREAT))

    def test_starts_that_are_far_apart(self):
        self.assertEqual(overlapping((1, 1, 1), (0, GREAT, 5)), [])
        self.assertEqual(schedule_graph((1, 1, 1), (0, GREAT, 5)), [(0, 1), (0, 2), (1, 2)])
        self.assertEqual(length_of((1, 1, 1), (0, GREAT, 5)), GREAT + 1)

    def test_one_and_seven_activities(self):
        self.assertEqual(overlapping((3,), (4,)), [])
        self.assertEqual(length_of((3,), (4,)), 7)
        self.assertEqual(schedule_graph((3,), (4,)), [])
        self.assertEqual(overlapping((1,) * 7, (0,) * 7), every_pair(7))
        self.assertEqual(schedule_graph((0,) * 7, (0,) * 7), every_pair(7))
        self.assertEqual(length_of((0,) * 7, (0,) * 7), 0)

    def test_example(self):
        self.assertEqual(overlapping((3, 0, 2), (0, 1, 3)), [(0, 1)])


class Faults(unittest.TestCase):
    def test_against_the_words(self):
        sizes = set()
        for shape, durations, starts in some_schedules(2, 300):
            told = faults(shape, durations, starts)
            self.assertEqual(schedule_faults(shape, durations, starts), told)
            sizes.add(len(told))
        self.assertLessEqual({0, 1, 2, 3}, sizes)

    def test_all_in_their_order(self):
        shape = Shape(
            tuple("abcd"), before=((2, 3), (0, 1), (2, 3), (0, 3)), machines=((3, (1, 1, 1, 1)), (3, (1, 2, 2, 1))),
        )
        self.assertEqual(schedule_faults(shape, (2, 2, 2, 2), (0, 0, 0, 0)), [
            ("before", 0, 1), ("before", 0, 3), ("before", 2, 3), ("together", (1, 2)), ("together", (0, 1, 3)),
            ("together", (0, 2, 3)),
        ])
        told = [("before", 0, 3), ("before", 2, 3), ("together", (0, 2, 3))]
        self.assertEqual(schedule_faults(shape, (2, 2, 2, 2), (1, 3, 1, 2)), told)
        self.assertEqual(schedule_faults(shape, (2, 2, 2, 2), (1, 3, 1, 3)), [])

    def test_what_is_forbidden_together_may_be_ordered(self):
        shape = Shape(("a", "b"), before=((0, 1),), machines=((1, (1, 1)),))
        self.assertEqual(schedule_faults(shape, (2, 2), (0, 1)), [("before", 0, 1), ("together", (0, 1))])
        self.assertEqual(schedule_faults(shape, (2, 2), (2, 0)), [("before", 0, 1)])

    def test_each_two_of_a_set_have_to_overlap(self):
        # one of duration 0 in the middle, and two that follow one another
        self.assertEqual(schedule_faults(side_by_side(3, 2), (4, 2, 2), (0, 0, 2)), [])
        self.assertEqual(schedule_faults(side_by_side(3, 2), (4, 2, 0), (0, 0, 1)), [("together", (0, 1, 2))])
        self.assertEqual(schedule_faults(side_by_side(3, 2), (4, 2, 0), (0, 0, 2)), [])

    def test_starts_that_are_far_apart(self):
        self.assertEqual(schedule_faults(side_by_side(3, 1), (GREAT, 1, 1), (0, GREAT, 3 * GREAT)), [])
        self.assertEqual(schedule_faults(side_by_side(3, 1), (GREAT, 1, 1), (0, GREAT - 1, 3 * GREAT)), [("together", (0, 1))])

    def test_workers(self):
        self.assertEqual(schedule_faults(FOUR, (1, 1, 1, 1), (0, 1, 1, 3)), [("together", (1, 2))])
        self.assertEqual(schedule_faults(FOUR, (1, 1, 1, 1), (0, 1, 2, 2)), [("together", (2, 3))])


class Earliest(unittest.TestCase):
    def test_along_all_orders_of_small_shapes(self):
        rnd = random.Random(8)
        for many in (1, 2, 3, 4):
            for seed in range(10):
                shape = some_shape(seed, many)
                for order in orders_of(shape, ORDERS[many]):
                    durations = some_durations(rnd, many)
                    rnd.shuffle(order)
                    starts = earliest(shape, rnd.choice((list, tuple))(order), durations)
                    self.assertIs(type(starts), tuple)
                    self.assertEqual(starts, tuple(number(start) for start in longest_path(order, durations)))

    def test_in_any_order_of_its_pairs(self):
        shape = Shape(tuple("abcd"), before=((3, 0),))
        order = [(1, 0), (3, 1), (3, 0), (1, 2), (3, 2), (0, 2)]
        for told in permutations(order, 6):
            self.assertEqual(earliest(shape, told, ((1, 2), 3, 5, (1, 3))), ((10, 3), (1, 3), (23, 6), 0))

    def test_it_keeps_the_shape_whatever_the_durations_just_if_the_order_resolves_it(self):
        for many in (2, 3, 4):
            for seed in range(12):
                shape = some_shape(seed, many)
                for order in orders_of(shape, ORDERS[many])[::3]:
                    free = unresolved(shape, order)
                    # the members of a free set all go on at once if only they last
                    durations = tuple(1 if free is None or a in free else 0 for a in range(many))
                    told = schedule_faults(shape, durations, earliest(shape, order, durations))
                    self.assertEqual(bool(told), free is not None)

    def test_nothing_ahead_and_great_numbers(self):
        self.assertEqual(earliest(Shape(("a", "b")), [], (GREAT, 1)), (0, 0))
        self.assertEqual(earliest(Shape(("a", "b")), [(1, 0)], (GREAT, (1, GREAT))), ((1, GREAT), 0))
        self.assertEqual(earliest(Shape(("a",)), (), (5,)), (0,))


class ScheduleOrder(unittest.TestCase):
    def test_it_is_an_order_that_resolves_and_nothing_starts_later(self):
        kept = 0
        for shape, durations, starts in some_schedules(3, 300):
            if faults(shape, durations, starts):
                continue
            kept += 1
            order = schedule_order(shape, durations, starts)
            self.assertEqual(order, told_order(shape, durations, starts))
            self.assertTrue(is_order(shape, order))
            self.assertIsNone(unresolved(shape, order))
            for early, start in zip(earliest(shape, order, durations), starts):
                self.assertLessEqual(fraction(early), fraction(start))
        self.assertGreater(kept, 100)

    def test_several_of_duration_0_at_one_time(self):
        self.assertEqual(schedule_order(Shape(("a", "b", "c")), (0, 0, 0), (5, 5, 5)), [(0, 1), (0, 2), (1, 2)])
        shape = Shape(("a", "b", "c"), before=((2, 0),))
        self.assertEqual(schedule_order(shape, (0, 0, 0), (5, 5, 5)), [(1, 0), (1, 2), (2, 0)])
        shape = Shape(tuple("abcde"), before=((4, 1), (1, 0), (4, 3)))
        # the row is c, e, b, a, d
        told = [(1, 0), (0, 3), (1, 3), (2, 0), (2, 1), (2, 3), (2, 4), (4, 0), (4, 1), (4, 3)]
        self.assertEqual(schedule_order(shape, (0,) * 5, (1,) * 5), sorted(told))

    def test_the_row_takes_the_least_that_is_free_each_time(self):
        shape = Shape(tuple("abcd"), before=((3, 0), (0, 1)))
        # the row is c, d, a, b
        told = [(0, 1), (2, 0), (2, 1), (2, 3), (3, 0), (3, 1)]
        self.assertEqual(schedule_order(shape, (0,) * 4, ((1, 2),) * 4), told)

    def test_the_row_counts_only_for_those_of_duration_0_at_one_time(self):
        shape = Shape(tuple("abc"), before=((2, 0),))
        self.assertEqual(schedule_order(shape, (0, 0, 0), (1, 2, 1)), [(0, 1), (2, 0), (2, 1)])
        self.assertEqual(schedule_order(shape, (1, 0, 0), (2, 2, 1)), [(1, 0), (2, 0), (2, 1)])
        self.assertEqual(schedule_order(shape, (1, 0, 0), (2, 3, 2)), [(0, 1), (2, 0), (2, 1)])

    def test_great_numbers(self):
        self.assertEqual(schedule_order(side_by_side(2, 1), (GREAT, 1), (1, 0)), [(1, 0)])
        self.assertEqual(schedule_order(side_by_side(2, 2), (GREAT, 1), (1, GREAT)), [])

    def test_no_schedule(self):
        told = []
        for shape, durations, starts in some_schedules(4, 200):
            wanted = faults(shape, durations, starts)
            if wanted:
                with self.assertRaises(NoSchedule) as caught:
                    schedule_order(shape, durations, starts)
                self.assertEqual(fields(caught.exception), {"fault": wanted[0]})
                told.append(wanted[0][0])
        self.assertEqual(set(told), {"before", "together"})
        with self.assertRaises(NoSchedule) as caught:
            schedule_order(THREE, (1, 1, 1), (0, 0, 0))
        self.assertEqual(fields(caught.exception), {"fault": ("together", (0, 1, 2))})


def told_order(shape, durations, starts):
    """The order of a schedule by the words of the document."""
    many = len(durations)
    row = []
    ahead = closure(shape.before)
    while len(row) < many:
        row.append(min(a for a in range(many) if a not in row and all(b in row for b, c in ahead if c == a)))
    order = []
    for a in range(many):
        for b in range(many):
            ends = fraction(starts[a]) + fraction(durations[a])
            at_once = durations[a] == durations[b] == 0 and starts[a] == starts[b]
            if a != b and ends <= fraction(starts[b]) and not (at_once and row.index(b) < row.index(a)):
                order.append((a, b))
    return order


class WrongArguments(unittest.TestCase):
    def calls(self, durations, starts):
        """Calls of the functions that take both; those that take a shape stand last."""
        return [
            lambda: overlapping(durations, starts), lambda: length_of(durations, starts),
            lambda: schedule_graph(durations, starts), lambda: schedule_faults(THREE, durations, starts),
            lambda: schedule_order(THREE, durations, starts),
        ]

    def test_durations_that_are_no_tuple_of_so_many(self):
        wrong = no_rows() + [[1, 2, 3], [], (), "123", {0: 1, 1: 1, 2: 1}, (1,) * 8, (None,) * 8, looped()]
        for value in wrong:
            for call in self.calls(value, None) + [lambda: earliest(THREE, [], value)]:
                self.refused(NoDurations, -1, call)
        for value in ((1, 2), (1, 2, 3, 4), (None, None), (-1,) * 4):
            for call in self.calls(value, None)[3:] + [lambda: earliest(THREE, [], value)]:
                self.refused(NoDurations, -1, call)

    def test_the_first_duration_that_is_no_amount(self):
        for value in wrong_amounts():
            for durations, at in (((value, 1, value), 0), ((1, (1, 2), value), 2)):
                for call in self.calls(durations, None) + [lambda: earliest(THREE, [], durations)]:
                    self.refused(NoDurations, at, call)

    def test_starts_that_are_no_tuple_of_as_many(self):
        wrong = no_rows() + [[1, 2, 3], [], (), "123", {0: 1, 1: 1, 2: 1}, (1, 2), (1,) * 4, (None,) * 4, looped()]
        for value in wrong:
            for call in self.calls((1, 2, 3), value):
                self.refused(NoStarts, -1, call)

    def test_the_first_start_that_is_no_amount(self):
        for value in wrong_amounts():
            for starts, at in (((value, 1, value), 0), ((1, (1, 2), value), 2)):
                for call in self.calls((0, (5, 2), 3), starts):
                    self.refused(NoStarts, at, call)

    def test_one_to_seven_durations(self):
        for many in range(1, 8):
            self.assertEqual(overlapping((0,) * many, (0,) * many), [])
            for function in (overlapping, length_of, schedule_graph):
                self.refused(NoStarts, -1, lambda: function((0,) * many, (0,) * (many + 1)))
                self.refused(NoStarts, -1, lambda: function((0,) * many, (0,) * (many - 1)))

    def test_orders(self):
        for value in odd_values():
            if not isinstance(value, (list, tuple)):
                self.refused(NoOrder, -1, lambda: earliest(THREE, value, None))
        self.refused(NoOrder, 0, lambda: earliest(THREE, [(1, 1)], None))
        self.refused(NoOrder, 1, lambda: earliest(THREE, [(0, 1), (0, 1)], ()))
        self.refused(NoOrder, 2, lambda: earliest(THREE, [(0, 1), (1, 2)], ()))
        self.refused(NoOrder, 0, lambda: earliest(FOUR, [], ()))

    def refused(self, kind, index, call):
        with self.assertRaises(kind) as caught:
            call()
        self.assertEqual(fields(caught.exception), {"index": index})


class Facts(unittest.TestCase):
    def test_the_earliest_schedule_is_the_shortest_along_its_order(self):
        for shape, durations, starts in some_schedules(5, 100):
            if not faults(shape, durations, starts):
                order = schedule_order(shape, durations, starts)
                early = earliest(shape, order, durations)
                self.assertLessEqual(
                    end_of([fraction(start) for start in early], durations),
                    end_of([fraction(start) for start in starts], durations),
                )


if __name__ == "__main__":
    unittest.main()
