"""[62]: how many plans there are."""

import inspect
import random
import unittest
from itertools import product

from crewlags.counts import count_plans
from crewlags.errors import NoChoice, NoNumber, NoProject
from crewlags.plans import plan_faults
from crewlags.projects import Project
from crewlags.times import possible_starts
from tests.project_support import drawn, drawn_project, every_choice, good_rows, plain, slow_end
from tests.support import PLAN, odd_values, raised

EXAMPLE = Project(("a", "b"), 20, (1,), (), (((2, (1,), (), 1),), ((3, (1,), (), 0),)))


class CountPlans(unittest.TestCase):
    def test_against_a_search_through_all_starts(self):
        seen = set()
        for seed in range(300):
            project = drawn(seed)
            for choice in every_choice(project):
                rows = good_rows(seed, choice)
                lasts = [max(slow_end(project, choice, a, start) for a, start in enumerate(row)) for row in rows]
                self.assertEqual(count_plans(project, choice), len(rows))
                self.assertEqual(count_plans(project, choice, most=None), len(rows))
                for most in (0, 1, 3, 4, 5, project.horizon, project.horizon + 1, 10 ** 30):
                    right = len([last for last in lasts if last <= most])
                    self.assertEqual(count_plans(project, choice, most=most), right)
                    seen.add(right)
        self.assertGreater(len(seen), 40)

    def test_four_and_five_activities(self):
        seen = 0
        for seed in range(36):
            rnd = random.Random(seed)
            project = drawn_project(rnd, 4 + seed % 2, 6 - seed % 2, longest=2)
            choice = tuple(rnd.randrange(len(modes)) for modes in project.modes)
            rows = product(*[possible_starts(project, choice, a) for a in range(len(choice))])
            right = sum(not plan_faults(project, choice, row) for row in rows)
            self.assertEqual(count_plans(project, choice), right)
            seen += right > 5
        self.assertGreater(seen, 5)

    def test_three_of_which_two_may_go_on_at_a_time(self):
        modes = (((2, (1,), (), 0),),) * 4
        project = Project(tuple("abcd"), 6, (2,), (), modes)
        right = sum(not plan_faults(project, (0,) * 4, row) for row in product(range(5), repeat=4))
        self.assertEqual(count_plans(project, (0,) * 4), right)
        self.assertEqual(count_plans(project, (0,) * 4, most=4), 6)
        self.assertEqual(count_plans(project, (0,) * 4, most=3), 0)

    def test_three_together_of_which_one_has_no_length(self):
        modes = (((2, (1,), (), 0),), ((3, (1,), (), 0),), ((0, (1,), (), 0),), ((2, (1,), (), 0),))
        project = Project(tuple("abcd"), 5, (2,), (), modes)
        rows = product(range(4), range(3), range(6), range(4))
        right = sum(not plan_faults(project, (0,) * 4, row) for row in rows)
        self.assertEqual(count_plans(project, (0,) * 4), right)

    def test_example(self):
        self.assertEqual([count_plans(EXAMPLE, (0, 0), most=most) for most in (4, 5, 6)], [0, 2, 6])
        second = Project(("a", "b"), 20, (1,), (3,), (
            ((2, (1,), (2,), 1), (4, (1,), (0,), 1)), ((3, (1,), (1,), 0), (5, (0,), (1,), 4)),
        ), overhead=1)
        self.assertEqual(count_plans(second, (0, 0), most=5), 2)

    def test_the_stocks(self):
        modes = (((1, (), (3,), 0), (1, (), (2,), 0)),)
        self.assertEqual(count_plans(Project(("a",), 4, (), (2,), modes), (0,)), 0)
        self.assertEqual(count_plans(Project(("a",), 4, (), (3,), modes), (0,)), 4)
        self.assertEqual(count_plans(Project(("a",), 4, (), (2,), modes), (1,)), 4)

    def test_cost_does_not_matter(self):
        modes = (((1, (), (), 1000),), ((2, (), (), 1000),))
        project = Project(("a", "b"), 9, (), (), modes, overhead=1000, late=((0, 1000), (0, 1000)))
        self.assertEqual(count_plans(project, (0, 0)), 9 * 8)

    def test_as_many_as_there_may_be(self):
        self.assertEqual(count_plans(plain((1, 2), horizon=60), (0, 0)), 60 * 59)
        self.assertEqual(count_plans(plain((0,), horizon=60), (0,)), 61)
        works = (2, 3, 2, 3, 2)
        windows = [(0, 9 + work - 1) for work in works]
        self.assertEqual(count_plans(plain(works, horizon=60, windows=windows), (0,) * 5), 9 ** 5)
        modes = tuple(((work, (1,), (), 0),) for work in works)
        project = Project(tuple("abcde"), 60, (1,), (), modes, windows=windows)
        ordered = count_plans(project, (0,) * 5)
        self.assertEqual(ordered, 0)
        wider = Project(tuple("abcde"), 60, (2,), (), modes, windows=windows)
        self.assertGreater(count_plans(wider, (0,) * 5), 1000)

    def test_one_behind_the_other(self):
        modes = (((1, (1,), (), 0),),) * 5
        project = Project(tuple("abcde"), 7, (1,), (), modes)
        # five of seven slots, in any order
        self.assertEqual(count_plans(project, (0,) * 5), 7 * 6 * 5 * 4 * 3)
        self.assertEqual(count_plans(project, (0,) * 5, most=5), 120)

    def test_facts_of_most(self):
        for seed in range(100):
            project = drawn(seed)
            choice = (0,) * len(project.names)
            told = [count_plans(project, choice, most=most) for most in range(project.horizon + 1)]
            self.assertEqual(told, sorted(told))
            self.assertEqual(told[-1], count_plans(project, choice))


class Errors(unittest.TestCase):
    def test_parameters(self):
        signature = inspect.signature(count_plans)
        self.assertEqual(tuple(signature.parameters), ("project", "choice", "most"))
        self.assertEqual(signature.parameters["most"].kind, inspect.Parameter.KEYWORD_ONLY)
        self.assertIsNone(signature.parameters["most"].default)

    def test_errors_in_the_order_of_the_parameters(self):
        for value in odd_values():
            if not isinstance(value, Project):
                told = (NoProject, {"part": "project", "index": -1})
                self.assertEqual(raised(lambda: count_plans(value, None, most=-1)), told)
            self.assertEqual(raised(lambda: count_plans(PLAN, value, most=-1)), (NoChoice, {"index": -1}))
            self.assertEqual(raised(lambda: count_plans(PLAN, (0, value), most=-1)), (NoChoice, {"index": 1}))
            self.assertEqual(raised(lambda: count_plans(PLAN, (value, 0))), (NoChoice, {"index": 0}))
            if value is not None and value != 10 ** 30:
                self.assertEqual(raised(lambda: count_plans(PLAN, (0, 0), most=value)), (NoNumber, {"part": "most"}))
        self.assertEqual(raised(lambda: count_plans(PLAN, (0, 1))), (NoChoice, {"index": 1}))
        for value in (-1, True, "6", (6,)):
            self.assertEqual(raised(lambda: count_plans(PLAN, (0, 0), most=value)), (NoNumber, {"part": "most"}))


if __name__ == "__main__":
    unittest.main()
