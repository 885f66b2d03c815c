"""[70], [71], [72], [73]: good rows, what must move, how far, how much room there is, and the facts."""

import inspect
import random
import unittest

from crewlags.calendars import Calendar
from crewlags.errors import NoChoice, NoFixed, NoPlan, NoProject, NoStarts
from crewlags.front import shortest
from crewlags.plans import plan_ends, plan_faults
from crewlags.projects import Project
from crewlags.repairs import fewest_moved, good_row, least_shift, must_move, room, spans
from tests.project_support import drawn, drawn_project, every_choice, good_rows, plain, slow_end
from tests.support import DIGGING, PLAN, no_rows, odd_values, raised
from tests.test_front import great_project

GREAT = 10 ** 30
SEEDS = range(300)


def last_end(project, choice, row):
    """The last end of a row."""
    return max(slow_end(project, choice, a, start) for a, start in enumerate(row))


def moved_of(row, starts):
    """The set of the activities that start otherwise."""
    return tuple(a for a, (one, other) in enumerate(zip(row, starts)) if one != other)


def shift_of(row, starts):
    """By how much an activity starts earlier or later at the most."""
    return max(abs(one - other) for one, other in zip(row, starts))


def told_starts(rnd, rows, many):
    """Starts that are those of a good row, near one, or far away."""
    if rows and rnd.random() < 0.7:
        row = rnd.choice(rows)
        return row if rnd.random() < 0.4 else tuple(max(0, start + rnd.choice((0, 0, 0, 1, -1, 3))) for start in row)
    return tuple(rnd.choice((0, 1, 2, 3, 4, 5, 8, 40)) for _ in range(many))


def cases():
    """Drawn projects with a choice, all their good rows, and told starts."""
    for seed in SEEDS:
        project = drawn(seed)
        rnd = random.Random(seed)
        for choice in every_choice(project):
            rows = good_rows(seed, choice)
            for _ in range(2):
                yield project, choice, rows, told_starts(rnd, rows, len(choice)), rnd


class GoodRow(unittest.TestCase):
    def test_against_a_search_through_all_rows(self):
        seen = {}
        for project, choice, rows, starts, rnd in cases():
            many = len(choice)
            for size in range(many + 1):
                fixed = [(a, starts[a]) for a in rnd.sample(range(many), size)]
                good = [row for row in rows if all(row[a] == start for a, start in fixed)]
                told = good_row(project, choice, fixed=fixed)
                self.assertEqual(told, good[0] if good else None)
                self.assertEqual(good_row(project, choice, fixed=tuple(fixed)), told)
                seen[size, told is None] = seen.get((size, told is None), 0) + 1
            self.assertEqual(good_row(project, choice), rows[0] if rows else None)
        self.assertEqual(len(seen), 8)
        self.assertGreater(min(seen.values()), 15, seen)

    def test_first_in_ascending_order(self):
        # the one that comes first is not the one that is done first
        project = plain((3, 2), horizon=9, singles=(((0, 1), ((0,),)),))
        self.assertEqual(good_row(project, (0, 0)), (0, 3))
        self.assertEqual(good_row(project, (0, 0), fixed=[(1, 0)]), (2, 0))
        self.assertEqual(good_row(project, (0, 0), fixed=[(1, 1)]), (3, 1))
        self.assertEqual(good_row(project, (0, 0), fixed=[(0, 1)]), (1, 4))
        self.assertEqual(good_row(project, (0, 0), fixed=[(0, 2)]), (2, 0))
        self.assertIsInstance(good_row(project, (0, 0)), tuple)

    def test_times_that_cannot_be(self):
        project = plain((3, 2), horizon=9, calendars=(Calendar((True, False)), None))
        for fixed in ([(0, 1)], [(0, 5)], [(1, 8)], [(0, GREAT)], [(1, GREAT), (0, 0)], [(0, 0), (1, 60)]):
            self.assertIsNone(good_row(project, (0, 0), fixed=fixed))
        self.assertEqual(good_row(project, (0, 0), fixed=[(0, 2), (1, 7)]), (2, 7))

    def test_all_fixed_is_as_plan_faults(self):
        rnd = random.Random(3)
        for seed in range(100):
            project = drawn_project(rnd, 4, 10)
            choice = tuple(rnd.randrange(len(modes)) for modes in project.modes)
            for _ in range(5):
                starts = tuple(rnd.randint(0, 8) for _ in choice)
                told = good_row(project, choice, fixed=list(enumerate(starts)))
                self.assertEqual(told, None if plan_faults(project, choice, starts) else starts)

    def test_the_stocks(self):
        project = Project(("a",), 4, (), (2,), (((1, (), (3,), 0), (1, (), (2,), 0)),))
        for call in (
            good_row, lambda told, choice: must_move(told, choice, (0,)), lambda told, choice: fewest_moved(told, choice, (0,)),
            lambda told, choice: least_shift(told, choice, (0,)), spans,
        ):
            self.assertIsNone(call(project, (0,)))
            self.assertIsNotNone(call(project, (1,)))

    def test_example(self):
        self.assertEqual(good_row(DIGGING, (0, 0)), (0, 2))
        self.assertEqual(good_row(DIGGING, (0, 0), fixed=[(1, 1)]), (4, 1))
        self.assertEqual(must_move(DIGGING, (0, 0), (0, 1)), ())
        self.assertEqual(fewest_moved(DIGGING, (0, 0), (0, 1)), ((0,), (4, 1)))
        self.assertEqual(least_shift(DIGGING, (0, 0), (0, 1)), (1, (0, 2)))
        self.assertEqual(room(DIGGING, (0, 0), (1, 3)), [(1, 4), (3, 3)])
        self.assertEqual(spans(DIGGING, (0, 0)), (5, [(0, 3), (0, 2)]))


class Moved(unittest.TestCase):
    def test_must_move_against_the_search(self):
        seen = {}
        for project, choice, rows, starts, _ in cases():
            right = None
            if rows:
                right = tuple(a for a, start in enumerate(starts) if all(row[a] != start for row in rows))
            self.assertEqual(must_move(project, choice, starts), right)
            key = None if right is None else len(right)
            seen[key] = seen.get(key, 0) + 1
        self.assertEqual(set(seen), {None, 0, 1, 2, 3})
        self.assertGreater(min(seen.values()), 5, seen)

    def test_fewest_moved_against_the_search(self):
        seen = {}
        for project, choice, rows, starts, _ in cases():
            right = min([(len(moved_of(row, starts)), moved_of(row, starts), row) for row in rows], default=None)
            self.assertEqual(fewest_moved(project, choice, starts), None if right is None else right[1:])
            key = None if right is None else right[0]
            seen[key] = seen.get(key, 0) + 1
        self.assertEqual(set(seen), {None, 0, 1, 2, 3})
        self.assertGreater(min(seen.values()), 5, seen)

    def test_the_first_of_several_sets(self):
        project = plain((2, 2, 2), horizon=9, singles=(((0, 1, 2), ((0,),)),))
        self.assertEqual(fewest_moved(project, (0, 0, 0), (0, 0, 4)), ((0,), (2, 0, 4)))
        self.assertEqual(fewest_moved(project, (0, 0, 0), (4, 4, 4)), ((0, 1), (0, 2, 4)))
        self.assertEqual(fewest_moved(project, (0, 0, 0), (4, 2, 2)), ((1,), (4, 0, 2)))
        self.assertEqual(must_move(project, (0, 0, 0), (4, 4, 4)), ())
        self.assertEqual(must_move(project, (0, 0, 0), (4, 8, 4)), (1,))
        self.assertEqual(fewest_moved(project, (0, 0, 0), (4, 8, 4)), ((0, 1), (0, 2, 4)))

    def test_starts_of_another_project(self):
        project = plain((2, 2), horizon=5, calendars=(Calendar((True, False)), None))
        self.assertEqual(must_move(project, (0, 0), (1, GREAT)), (0, 1))
        self.assertEqual(fewest_moved(project, (0, 0), (1, GREAT)), ((0, 1), (0, 0)))
        self.assertEqual(must_move(project, (0, 0), (2, GREAT)), (1,))
        self.assertEqual(fewest_moved(project, (0, 0), (2, GREAT)), ((1,), (2, 0)))

    def test_no_good_row(self):
        project = Project(("a", "b"), 5, (1,), (), (((3, (1,), (), 0),),) * 2)
        for starts in ((0, 0), (0, 3), (GREAT, 0)):
            self.assertIsNone(must_move(project, (0, 0), starts))
            self.assertIsNone(fewest_moved(project, (0, 0), starts))
            self.assertIsNone(least_shift(project, (0, 0), starts))
        self.assertIsNone(spans(project, (0, 0)))
        # nothing is possible at all
        none = plain((3,), horizon=2)
        self.assertIsNone(least_shift(none, (0,), (0,)))
        self.assertIsNone(fewest_moved(none, (0,), (0,)))
        self.assertIsNone(must_move(none, (0,), (0,)))
        self.assertIsNone(good_row(none, (0,)))
        self.assertIsNone(spans(none, (0,)))


class LeastShift(unittest.TestCase):
    def test_against_the_search(self):
        seen = {}
        for project, choice, rows, starts, _ in cases():
            right = min([(shift_of(row, starts), row) for row in rows], default=None)
            self.assertEqual(least_shift(project, choice, starts), right)
            key = None if right is None else min(right[0], 7)
            seen[key] = seen.get(key, 0) + 1
        self.assertLessEqual({None, 0, 1, 2, 3, 7}, set(seen))

    def test_earlier_and_later_count_the_same(self):
        project = plain((4, 4), horizon=20, singles=(((0, 1), ((0,),)),))
        self.assertEqual(least_shift(project, (0, 0), (5, 5)), (2, (3, 7)))
        self.assertEqual(least_shift(project, (0, 0), (0, 0)), (4, (0, 4)))
        self.assertEqual(least_shift(project, (0, 0), (5, 6)), (2, (3, 7)))
        self.assertEqual(least_shift(project, (0, 0), (6, 5)), (2, (7, 3)))
        self.assertEqual(least_shift(project, (0, 0), (6, 4)), (1, (7, 3)))

    def test_far_away(self):
        project = plain((2, 2), horizon=9)
        self.assertEqual(least_shift(project, (0, 0), (GREAT, 0)), (GREAT - 7, (7, 0)))
        self.assertEqual(least_shift(project, (0, 0), (GREAT, GREAT)), (GREAT - 7, (7, 7)))
        self.assertEqual(least_shift(project, (0, 0), (60, 7)), (53, (7, 0)))

    def test_rests_in_between(self):
        project = plain((1, 1), horizon=30, calendars=(Calendar((True,) + (False,) * 9), None))
        self.assertEqual(least_shift(project, (0, 0), (4, 3)), (4, (0, 0)))
        self.assertEqual(least_shift(project, (0, 0), (6, 3)), (4, (10, 0)))
        self.assertEqual(least_shift(project, (0, 0), (5, 3)), (5, (0, 0)))


class Room(unittest.TestCase):
    def test_against_the_search(self):
        seen = {}
        for seed in SEEDS:
            project = drawn(seed)
            for choice in every_choice(project):
                rows = good_rows(seed, choice)
                for starts in random.Random(seed).sample(rows, min(3, len(rows))):
                    last = last_end(project, choice, starts)
                    good = [row for row in rows if last_end(project, choice, row) <= last]
                    right = []
                    for a in range(len(starts)):
                        alone = [row[a] for row in good if moved_of(row, starts) in ((), (a,))]
                        right.append((max(alone), max(row[a] for row in good)))
                    told = room(project, choice, starts)
                    self.assertIs(type(told), list)
                    self.assertEqual(told, right)
                    for (alone, free), start in zip(told, starts):
                        self.assertTrue(start <= alone <= free)
                        key = (start < alone, alone < free)
                        seen[key] = seen.get(key, 0) + 1
        self.assertEqual(len(seen), 4)
        self.assertGreater(min(seen.values()), 10, seen)

    def test_rows_that_are_not_good(self):
        for starts, fault in (((0, 1), ("together", (0, 1), 1)), ((17, 18), ("horizon", 1)), ((0, GREAT), ("horizon", 1))):
            self.assertEqual(raised(lambda: room(DIGGING, (0, 0), starts)), (NoPlan, {"fault": fault}))
        self.assertEqual(raised(lambda: room(PLAN, (0, 0), (0, 1))), (NoPlan, {"fault": ("rest", 1)}))

    def test_nothing_ends_later_than_the_last_end(self):
        project = plain((2, 3), horizon=20, lags=(("end", 0, "start", 1, 0, None),))
        self.assertEqual(room(project, (0, 0), (0, 2)), [(0, 0), (2, 2)])
        self.assertEqual(room(project, (0, 0), (0, 4)), [(2, 2), (4, 4)])
        self.assertEqual(room(project, (0, 0), (1, 17)), [(15, 15), (17, 17)])


class Spans(unittest.TestCase):
    def test_against_the_search(self):
        seen = 0
        for seed in SEEDS:
            project = drawn(seed)
            for choice in every_choice(project):
                rows = good_rows(seed, choice)
                if not rows:
                    self.assertIsNone(spans(project, choice))
                    continue
                least = min(last_end(project, choice, row) for row in rows)
                short = [row for row in rows if last_end(project, choice, row) == least]
                right = [(min(row[a] for row in short), max(row[a] for row in short)) for a in range(len(choice))]
                told = spans(project, choice)
                self.assertEqual(told, (least, right))
                self.assertIs(type(told[1]), list)
                seen += any(one < other for one, other in right)
        self.assertGreater(seen, 60)

    def test_three_of_which_two_may_go_on_at_a_time(self):
        project = Project(("a", "b", "c"), 20, (2,), (), (((4, (1,), (), 0),), ((2, (1,), (), 0),), ((2, (1,), (), 0),)))
        self.assertEqual(spans(project, (0, 0, 0)), (4, [(0, 0), (0, 2), (0, 2)]))
        longer = Project(("a", "b", "c"), 20, (2,), (), (((4, (1,), (), 0),), ((3, (1,), (), 0),), ((3, (1,), (), 0),)))
        self.assertEqual(spans(longer, (0, 0, 0)), (6, [(0, 2), (0, 3), (0, 3)]))


class Facts(unittest.TestCase):
    def test_all_of_them(self):
        for project, choice, rows, starts, rnd in cases():
            if not rows:
                continue
            moving = must_move(project, choice, starts)
            moved, row = fewest_moved(project, choice, starts)
            self.assertLessEqual(set(moving), set(moved))
            self.assertEqual(moved_of(row, starts), moved)
            self.assertEqual(plan_faults(project, choice, row), [])
            # a good row in which only some move is there just if one with all others fixed is told
            some = tuple(a for a in range(len(choice)) if rnd.random() < 0.5)
            fixed = [(a, start) for a, start in enumerate(starts) if a not in some]
            there = any(set(moved_of(other, starts)) <= set(some) for other in rows)
            told = good_row(project, choice, fixed=fixed)
            self.assertEqual(told is not None, there)
            if told is not None:
                self.assertLessEqual(set(moving), set(moved_of(told, starts)))
            shift, near = least_shift(project, choice, starts)
            self.assertEqual(shift_of(near, starts), shift)

    def test_a_good_row(self):
        for seed in SEEDS:
            project = drawn(seed)
            for choice in every_choice(project):
                for row in good_rows(seed, choice)[:2]:
                    self.assertEqual(must_move(project, choice, row), ())
                    self.assertEqual(fewest_moved(project, choice, row), ((), row))
                    self.assertEqual(least_shift(project, choice, row), (0, row))
                    for (alone, free), start in zip(room(project, choice, row), row):
                        self.assertTrue(start <= alone <= free)

    def test_the_least_time_is_that_of_the_shortest_plan(self):
        for seed in SEEDS:
            project = drawn(seed)
            times = [spans(project, choice) for choice in every_choice(project)]
            times = [told[0] for told in times if told is not None]
            best = shortest(project)
            self.assertEqual(min(times, default=None), None if best is None else best[0])


class Great(unittest.TestCase):
    def test_five_activities_with_a_horizon_of_60(self):
        rnd = random.Random(4)
        good = 0
        for seed in range(16):
            project = great_project(seed)
            choice = tuple(rnd.randrange(3) for _ in range(5))
            row = good_row(project, choice)
            starts = tuple(rnd.randint(0, 40) for _ in range(5))
            if row is None:
                for call in (must_move, fewest_moved, least_shift):
                    self.assertIsNone(call(project, choice, starts))
                continue
            good += 1
            self.assertEqual(plan_faults(project, choice, row), [])
            moved, other = fewest_moved(project, choice, starts)
            self.assertEqual(plan_faults(project, choice, other), [])
            self.assertEqual(moved_of(other, starts), moved)
            self.assertLessEqual(set(must_move(project, choice, starts)), set(moved))
            shift, near = least_shift(project, choice, starts)
            self.assertEqual(plan_faults(project, choice, near), [])
            self.assertEqual(shift_of(near, starts), shift)
            time, rows = spans(project, choice)
            self.assertTrue(all(low <= high for low, high in rows))
            self.assertLessEqual(time, max(plan_ends(project, choice, row)))
            for start, (alone, free), (_, high) in zip(row, room(project, choice, row), rows):
                self.assertTrue(start <= alone <= free)
                self.assertTrue(high <= 60)
        self.assertGreater(good, 4)

    def test_one_at_a_time_in_sixty(self):
        modes = tuple(((12, (1,), (), 0),) for _ in range(5))
        project = Project(tuple("abcde"), 60, (1,), (), modes)
        self.assertEqual(good_row(project, (0,) * 5), (0, 12, 24, 36, 48))
        self.assertEqual(spans(project, (0,) * 5), (60, [(0, 48)] * 5))
        self.assertEqual(must_move(project, (0,) * 5, (1, 12, 24, 36, 48)), (0,))
        self.assertEqual(fewest_moved(project, (0,) * 5, (48, 48, 48, 48, 48)), ((0, 1, 2, 3), (0, 12, 24, 36, 48)))
        self.assertEqual(least_shift(project, (0,) * 5, (30, 30, 30, 30, 30)), (30, (0, 12, 24, 36, 48)))
        self.assertEqual(room(project, (0,) * 5, (0, 12, 24, 36, 48)), [(start, 48) for start in (0, 12, 24, 36, 48)])
        tight = Project(tuple("abcde"), 59, (1,), (), modes)
        self.assertIsNone(good_row(tight, (0,) * 5))
        self.assertIsNone(least_shift(tight, (0,) * 5, (0, 1, 2, 3, 4)))


class Errors(unittest.TestCase):
    WITH_STARTS = (must_move, fewest_moved, least_shift, room)

    def test_parameters(self):
        for function, names in [(call, ("project", "choice", "starts")) for call in self.WITH_STARTS] + [
            (good_row, ("project", "choice", "fixed")), (spans, ("project", "choice")),
        ]:
            signature = inspect.signature(function)
            self.assertEqual(tuple(signature.parameters), names)
        self.assertEqual(inspect.signature(good_row).parameters["fixed"].default, ())
        self.assertEqual(inspect.signature(good_row).parameters["fixed"].kind, inspect.Parameter.KEYWORD_ONLY)

    def refused(self, told, project, choice, starts):
        for call in self.WITH_STARTS:
            self.assertEqual(raised(lambda: call(project, choice, starts)), told)

    def test_no_project_no_choice_no_starts(self):
        for value in odd_values() + [(), [], PLAN.calendars[1], Project]:
            if not isinstance(value, Project):
                told = (NoProject, {"part": "project", "index": -1})
                self.refused(told, value, None, None)
                self.assertEqual(raised(lambda: good_row(value, None, fixed=None)), told)
                self.assertEqual(raised(lambda: spans(value, None)), told)
        for value in odd_values() + [(), (0,), (0, 0, 0), [0, 0], "00"]:
            told = (NoChoice, {"index": -1})
            self.refused(told, PLAN, value, None)
            self.assertEqual(raised(lambda: good_row(PLAN, value, fixed=None)), told)
            self.assertEqual(raised(lambda: spans(PLAN, value)), told)
        for value in odd_values() + [1, -1, "0", (0,)]:
            told = (NoChoice, {"index": 1})
            self.refused(told, PLAN, (0, value), None)
            self.assertEqual(raised(lambda: good_row(PLAN, (0, value), fixed=None)), told)
            self.assertEqual(raised(lambda: spans(PLAN, (0, value))), told)
        for value in odd_values() + [(), (0,), (0, 0, 0), [0, 2], "02", 0]:
            self.refused((NoStarts, {"index": -1}), PLAN, (0, 0), value)
        for value in odd_values() + [-1, "2", (2,), [2], True]:
            if value != GREAT:
                self.refused((NoStarts, {"index": 1}), PLAN, (0, 0), (0, value))
                self.refused((NoStarts, {"index": 0}), PLAN, (0, 0), (value, value))

    def test_fixed_is_no_list_or_tuple(self):
        for value in no_rows() + ["01", {(0, 1): 1}, {}, None, 0, {(0, 1)}]:
            self.assertEqual(raised(lambda: good_row(PLAN, (0, 0), fixed=value)), (NoFixed, {"index": -1}))

    def test_items_that_are_none(self):
        wrong = odd_values() + [
            (), (0,), (0, 1, 2), [0, 1], "01", (2, 0), (-1, 0), (True, 0), (False, 0), (0, True), (0, -1), (0, None),
            (None, 0), ("0", 1), (0, "1"), (0, (1,)), ((0,), 1), {0: 1, 1: 2}, (0, [1]), (GREAT, 0),
        ]
        for value in wrong:
            self.assertEqual(raised(lambda: good_row(PLAN, (0, 0), fixed=[value])), (NoFixed, {"index": 0}))
            self.assertEqual(raised(lambda: good_row(PLAN, (0, 0), fixed=(value, value))), (NoFixed, {"index": 0}))
            self.assertEqual(raised(lambda: good_row(PLAN, (0, 0), fixed=((0, 0), value, None))), (NoFixed, {"index": 1}))
            self.assertEqual(raised(lambda: good_row(PLAN, (0, 0), fixed=[(1, 60), (0, GREAT), value])), (NoFixed, {"index": 2}))

    def test_an_activity_twice(self):
        for fixed, at in (
            ([(0, 0), (0, 0)], 1), ([(0, 0), (0, 1)], 1), ([(1, 2), (0, 0), (1, 2)], 2), ([(0, 0), (1, 2), (0, 0), None], 2),
            ([(0, 0)] * 20, 1), (((1, 2), (0, 0)) * 9, 2),
        ):
            self.assertEqual(raised(lambda: good_row(PLAN, (0, 0), fixed=fixed)), (NoFixed, {"index": at}))
        self.assertEqual(good_row(PLAN, (0, 0), fixed=[(1, 2), (0, 0)]), (0, 2))

    def test_nothing_is_changed(self):
        fixed = [(1, 2)]
        good_row(PLAN, (0, 0), fixed=fixed)
        self.assertEqual(fixed, [(1, 2)])
        room(PLAN, (0, 0), (0, 2)).clear()
        self.assertEqual(len(room(PLAN, (0, 0), (0, 2))), 2)
        spans(PLAN, (0, 0))[1].clear()
        self.assertEqual(len(spans(PLAN, (0, 0))[1]), 2)


if __name__ == "__main__":
    unittest.main()
