"""[60] to [62]: the ends that no plan is ahead of; they only make the searches short, so they are looked at here."""

import random
import unittest

from crewlags.front import all_boards, shortest
from crewlags.papers import paper_of
from crewlags.plans import plan_ends
from crewlags.projects import Project
from crewlags.repairs import spans
from tests.project_support import drawn, plain


def least_end(project):
    """The least end of the first choice."""
    return all_boards(project, None)[0].least_end


class LeastEnds(unittest.TestCase):
    def test_no_plan_is_ahead_of_it(self):
        reached = 0
        for seed in range(200):
            project = drawn(seed)
            for board in all_boards(project, None):
                told = spans(project, board.choice)
                if told is not None:
                    self.assertLessEqual(board.least_end, told[0])
                    reached += board.least_end == told[0]
        self.assertGreater(reached, 50)

    def test_machines(self):
        modes = tuple(((work, (demand,), (), 0),) for work, demand in ((3, 2), (4, 3), (5, 0), (0, 3)))
        project = Project(tuple("abcd"), 30, (3,), (), modes)
        # 18 at 3 at a time; what demands nothing or takes no time does not count
        self.assertEqual(least_end(project), 6)
        windows = ((2, None), (4, None), (0, None), (0, None))
        self.assertEqual(least_end(Project(tuple("abcd"), 30, (3,), (), modes, windows=windows)), 8)
        self.assertEqual(least_end(Project(tuple("abcd"), 30, (3, 0), (), tuple(((5, (0, 0), (), 0),) for _ in "abcd"))), 0)

    def test_singles(self):
        table = ((2, 3), (4, 9))
        project = plain((3, 4, 2, 9), horizon=40, families=(0, 1, 0, 1), singles=(((0, 1, 2), table),))
        # between two of them at least 2 passes
        self.assertEqual(least_end(project), 3 + 4 + 2 + 2 + 2)
        late = plain((3, 4, 2, 9), horizon=40, families=(0, 1, 0, 1), singles=(((0, 1, 2), table),),
                     windows=((5, None), (6, None), (7, None), (0, None)))
        self.assertEqual(least_end(late), 5 + 13)

    def test_the_crew(self):
        asks = ((("x", 2),), (("y", 1),), (("x", 1), ("y", 1)), ())
        project = plain((3, 4, 5, 9), horizon=40, crew=(("x",), ("x", "y")), asks=asks)
        # of x 11 is asked for and there are 2, of y 9 of 1, of both 20 of 2
        self.assertEqual(least_end(project), 10)

    def test_great_projects_that_one_look_is_enough_for(self):
        modes = tuple(tuple((10 - k, (1,), (), k) for k in range(3)) for _ in range(5))
        project = Project(tuple("abcde"), 60, (1,), (), modes)
        time, choice, starts = shortest(project)
        self.assertEqual((time, choice), (40, (2,) * 5))
        self.assertEqual(max(plan_ends(project, choice, starts)), 40)
        self.assertEqual(shortest(project, cost=0)[0], 50)
        self.assertIsNotNone(paper_of(project, 39))


if __name__ == "__main__":
    unittest.main()
