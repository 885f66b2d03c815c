"""[52], [53]: possible starts, the starts that keep the times, and steps that show that there are none."""

import inspect
import random
import unittest
from itertools import product

from crewlags import times as module
from crewlags.calendars import Calendar
from crewlags.errors import NoActivity, NoAhead, NoChoice, NoDerivation, NoNumber, NoProject
from crewlags.projects import Project
from crewlags.times import check_derivation, derivation, possible_starts, times
from tests.project_support import keeps_times, plain, slow_fault, slow_possible, slow_times, some_project
from tests.support import PLAN, looped, no_rows, odd_values, raised, wrong_pairs

GREAT = 10 ** 40
FUNCTIONS = {
    possible_starts: ("project", "choice", "a", "most"), times: ("project", "choice", "ahead", "most"),
    derivation: ("project", "choice", "ahead", "most"),
    check_derivation: ("project", "choice", "steps", "ahead", "most"),
}


CASES = [some_project(random.Random(seed), 1 + seed % 3) for seed in range(500)]


class PossibleStarts(unittest.TestCase):
    def test_slot_by_slot(self):
        sizes = set()
        for project, choice, _, most in CASES:
            for a in range(len(project.names)):
                told = possible_starts(project, choice, a, most=most)
                self.assertEqual(told, slow_possible(project, choice, a, most))
                self.assertIs(type(told), list)
                sizes.add(len(told))
        self.assertLessEqual(set(range(10)), sizes)

    def test_release_deadline_horizon_and_most(self):
        project = plain((3, 3, 3, 0, 0), horizon=10, windows=((2, None), (0, 6), (7, 9), (10, None), (4, 4)))
        every = [possible_starts(project, (0,) * 5, a) for a in range(5)]
        self.assertEqual(every, [[2, 3, 4, 5, 6, 7], [0, 1, 2, 3], [], [10], [4]])
        every = [possible_starts(project, (0,) * 5, a, most=6) for a in range(5)]
        self.assertEqual(every, [[2, 3], [0, 1, 2, 3], [], [], [4]])
        for most in (10, 11, 60, GREAT):
            self.assertEqual(possible_starts(project, (0,) * 5, 0, most=most), [2, 3, 4, 5, 6, 7])
        self.assertEqual(possible_starts(project, (0,) * 5, 1, most=3), [0])
        self.assertEqual(possible_starts(project, (0,) * 5, 1, most=2), [])
        self.assertEqual(possible_starts(project, (0,) * 5, 1, most=0), [])
        self.assertEqual(possible_starts(plain((0,), horizon=60), (0,), 0, most=0), [0])
        self.assertEqual(possible_starts(plain((60,), horizon=60), (0,), 0), [0])
        self.assertEqual(possible_starts(plain((60,), horizon=59), (0,), 0), [])
        # a deadline ahead of the release leaves nothing, even of the work 0
        self.assertEqual(possible_starts(plain((0,), windows=((5, 4),)), (0,), 0), [])
        self.assertEqual(possible_starts(plain((0,), windows=((60, 60),)), (0,), 0), [])

    def test_calendars_and_the_chosen_mode(self):
        modes = (((0, (), (), 0), (1, (), (), 0), (2, (), (), 0)),)
        calendar = Calendar((True, True, False, False), changes=((4, False), (6, True)))
        project = Project(("a",), 8, (), (), modes, calendars=(calendar,))
        self.assertEqual(possible_starts(project, (0,), 0), list(range(9)))
        self.assertEqual(possible_starts(project, (1,), 0), [0, 1, 5, 6])
        self.assertEqual(possible_starts(project, (2,), 0), [0, 1, 5])

    def test_lags_from_an_activity_to_itself(self):
        calendar = Calendar((True, True, False))
        for lag, told in (
            (("start", 0, "end", 0, 0, 2), [0, 3, 6]), (("start", 0, "end", 0, 3, None), [1, 4, 7]),
            (("end", 0, "start", 0, -3, -3), [1, 4, 7]), (("end", 0, "start", 0, -2, None), [0, 3, 6]),
            (("start", 0, "start", 0, 0, 0), [0, 1, 3, 4, 6, 7]), (("start", 0, "start", 0, 1, None), []),
            (("end", 0, "end", 0, -5, -1), []), (("start", 0, "end", 0, 0, 60), [0, 1, 3, 4, 6, 7]),
        ):
            project = plain((2, 1), horizon=10, calendars=(calendar, calendar), lags=(lag,))
            self.assertEqual(possible_starts(project, (0, 0), 0), told, lag)
            self.assertEqual(possible_starts(project, (0, 0), 1), [0, 1, 3, 4, 6, 7, 9])

    def test_lags_to_others_do_not_matter(self):
        project = plain((2, 3), lags=(("end", 0, "start", 1, 50, None),))
        self.assertEqual(possible_starts(project, (0, 0), 1), list(range(18)))
        self.assertIsNone(times(project, (0, 0)))

    def test_example(self):
        self.assertEqual(possible_starts(PLAN, (0, 0), 1), [0, 2, 4])
        self.assertEqual(possible_starts(PLAN, (0, 0), 0), [0, 1, 2, 3, 4, 5, 6, 7])

    def test_a_list_of_its_own(self):
        told = possible_starts(PLAN, (0, 0), 1)
        told.clear()
        self.assertEqual(possible_starts(PLAN, (0, 0), 1), [0, 2, 4])


class Times(unittest.TestCase):
    def test_against_a_search_through_all_starts(self):
        kinds = set()
        for project, choice, ahead, most in CASES:
            told = times(project, choice, ahead=ahead, most=most)
            self.assertEqual(told, slow_times(project, choice, ahead, most))
            kinds.add((len(project.names), told is None or told[0] == told[1], told is None, bool(ahead)))
        self.assertGreater(len(kinds), 12)

    def test_each_kind_of_lag(self):
        for one in ("start", "end"):
            for other in ("start", "end"):
                for low, high in ((0, None), (2, None), (-3, None), (1, 3), (-4, -2), (0, 0), (-2, 5)):
                    for a, b in ((0, 1), (1, 0)):
                        project = plain((2, 3), horizon=9, lags=((one, a, other, b, low, high),))
                        self.assertEqual(times(project, (0, 0)), slow_times(project, (0, 0), (), None))

    def test_set_ups_in_both_directions(self):
        table = ((0, 4), (1, 0))
        single = ((0, 1), table)
        project = plain((2, 3, 1), horizon=15, families=(0, 1, 1), singles=(single,))
        self.assertEqual(times(project, (0, 0, 0), ahead=[(0, 1)]), ((0, 6, 0), (6, 12, 14)))
        self.assertEqual(times(project, (0, 0, 0), ahead=[(1, 0)]), ((4, 0, 0), (13, 9, 14)))
        # no single has these two
        self.assertEqual(times(project, (0, 0, 0), ahead=((0, 2),)), ((0, 0, 2), (12, 12, 14)))
        # left out families are 0 for all, and the second single may be the one that has both
        project = plain((2, 3, 1), horizon=15, singles=(((0, 1), ((4,),)), ((1, 2), ((5,),))))
        self.assertEqual(times(project, (0, 0, 0), ahead=((0, 1), (1, 2))), ((0, 6, 14), (0, 6, 14)))
        # without pairs ahead a single does not matter
        self.assertEqual(times(project, (0, 0, 0))[0], (0, 0, 0))

    def test_pairs_that_close_a_ring_or_are_there_twice(self):
        project = plain((2, 3, 0, 0), horizon=9)
        choice = (0, 0, 0, 0)
        self.assertIsNone(times(project, choice, ahead=[(0, 1), (1, 0)]))
        self.assertIsNone(times(project, choice, ahead=[(0, 1), (1, 2), (2, 0)]))
        # of the work 0 two can each be ahead of the other
        self.assertEqual(times(project, choice, ahead=[(2, 3), (3, 2)]), ((0, 0, 0, 0), (7, 6, 9, 9)))
        self.assertEqual(times(project, choice, ahead=[(0, 2), (2, 3), (3, 2)]), ((0, 0, 2, 2), (7, 6, 9, 9)))
        self.assertEqual(times(project, choice, ahead=((0, 1),) * 20), ((0, 2, 0, 0), (4, 6, 9, 9)))
        self.assertEqual(times(project, choice, ahead=[(0, 1)]), times(project, choice, ahead=[(0, 1), (0, 1)]))

    def test_machines_stocks_and_crew_do_not_matter(self):
        modes = (((2, (1,), (5,), 0),), ((2, (1,), (5,), 0),))
        project = Project(("a", "b"), 6, (1,), (3,), modes, crew=(("x",),), asks=((("x", 1),), (("x", 1),)))
        self.assertEqual(times(project, (0, 0)), ((0, 0), (4, 4)))

    def test_most(self):
        project = plain((2, 3), lags=(("end", 0, "start", 1, 0, None),))
        self.assertEqual(times(project, (0, 0)), ((0, 2), (15, 17)))
        self.assertEqual(times(project, (0, 0), most=6), ((0, 2), (1, 3)))
        self.assertEqual(times(project, (0, 0), most=5), ((0, 2), (0, 2)))
        self.assertIsNone(times(project, (0, 0), most=4))
        self.assertIsNone(times(project, (0, 0), most=0))
        self.assertEqual(times(project, (0, 0), most=GREAT), times(project, (0, 0)))

    def test_five_activities_and_twelve_lags(self):
        lags = [("end", a, "start", a + 1, 1, 2) for a in range(4)] + [("start", 0, "start", b, 0, None) for b in range(1, 5)]
        lags += [("end", 4, "start", a, -60, 0) for a in range(4)]
        project = plain((3, 3, 3, 3, 3), horizon=60, lags=lags)
        self.assertEqual(times(project, (0,) * 5), ((0, 4, 8, 12, 16), (41, 45, 49, 53, 57)))
        self.assertEqual(times(project, (0,) * 5, most=19), ((0, 4, 8, 12, 16),) * 2)
        self.assertIsNone(times(project, (0,) * 5, most=18))

    def test_of_two_rows_the_lesser_and_the_greater_ones_keep_the_times(self):
        rnd = random.Random(1)
        seen = 0
        for project, choice, ahead, most in CASES:
            if len(project.names) < 3:
                continue
            rows = [slow_possible(project, choice, a, most) for a in range(3)]
            good = [starts for starts in product(*rows) if keeps_times(project, choice, ahead, starts)]
            for _ in range(3 if len(good) > 1 else 0):
                one, other = rnd.sample(good, 2)
                self.assertIn(tuple(map(min, one, other)), good)
                self.assertIn(tuple(map(max, one, other)), good)
                seen += 1
        self.assertGreater(seen, 100)

    def test_example(self):
        self.assertEqual(times(PLAN, (0, 0)), ((0, 2), (2, 4)))
        self.assertIsNone(times(PLAN, (0, 0), most=6))


class Derivation(unittest.TestCase):
    def test_there_is_one_just_if_no_starts_keep_the_times(self):
        shown = 0
        for project, choice, ahead, most in CASES:
            told = derivation(project, choice, ahead=ahead, most=most)
            self.assertEqual(told is None, slow_times(project, choice, ahead, most) is not None)
            if told is not None:
                self.assertIs(type(told), list)
                self.assertIsNone(check_derivation(project, choice, told, ahead=ahead, most=most))
                self.assertIsNone(slow_fault(project, choice, told, ahead, most))
                shown += 1
        self.assertGreater(shown, 60)

    def test_example(self):
        self.assertIsNone(derivation(PLAN, (0, 0)))
        self.assertIsNone(check_derivation(PLAN, (0, 0), [(1, 2, ("lag", 0))], most=6))
        told = derivation(PLAN, (0, 0), most=6)
        self.assertIsNone(check_derivation(PLAN, (0, 0), told, most=6))

    def test_no_steps_where_an_activity_has_no_possible_start(self):
        project = plain((5, 2), windows=((0, 4), (0, None)))
        self.assertIsNone(check_derivation(project, (0, 0), []))
        self.assertIsNone(check_derivation(project, (0, 0), derivation(project, (0, 0))))
        self.assertIsNone(times(project, (0, 0)))

    def test_rings(self):
        project = plain((2, 3), horizon=60)
        told = derivation(project, (0, 0), ahead=[(0, 1), (1, 0)])
        self.assertIsNone(check_derivation(project, (0, 0), told, ahead=[(0, 1), (1, 0)]))
        self.assertIsNone(slow_fault(project, (0, 0), told, [(0, 1), (1, 0)], None))


class CheckDerivation(unittest.TestCase):
    def fault(self, project, steps, **more):
        told = raised(lambda: check_derivation(project, (0,) * len(project.names), steps, **more))
        if told is None:
            return None
        self.assertEqual(told[0], NoDerivation)
        return told[1]["part"], told[1]["index"]

    def test_steps_drawn_by_chance(self):
        rnd = random.Random(2)
        seen = {}
        for project, choice, ahead, most in CASES:
            many = len(project.names)
            known = derivation(project, choice, ahead=ahead, most=most)
            for _ in range(4):
                steps = list(known or [])
                for _ in range(rnd.randint(0, 2)):
                    reason = rnd.choice((("window",), ("lag", rnd.randint(0, 3)), ("ahead", rnd.randint(0, 2))))
                    steps.insert(rnd.randint(0, len(steps)), (rnd.randrange(many), rnd.randint(0, 8), reason))
                told = raised(lambda: check_derivation(project, choice, steps, ahead=ahead, most=most))
                right = slow_fault(project, choice, steps, ahead, most)
                if right is None:
                    self.assertIsNone(told)
                else:
                    self.assertEqual(told, (NoDerivation, {"part": right[0], "index": right[1]}))
                seen[right] = seen.get(right, 0) + 1
        for kind in (None, ("open", -1), ("steps", 0), ("steps", 1)):
            self.assertGreater(seen[kind], 20)

    def test_windows(self):
        project = plain((2, 2), windows=((3, None), (0, None)), horizon=9)
        self.assertEqual(self.fault(project, [(0, 3, ("window",))]), ("open", -1))
        self.assertEqual(self.fault(project, [(0, 4, ("window",))]), ("steps", 0))
        self.assertEqual(self.fault(project, [(0, 0, ("window",)), (1, 0, ("window",)), (1, 1, ("window",))]), ("steps", 2))
        # behind a step that stands for another reason, what is ahead of its time is gone
        lag = plain((2, 2), horizon=9, lags=(("start", 0, "start", 1, 4, None),))
        self.assertEqual(self.fault(lag, [(1, 4, ("window",))]), ("steps", 0))
        self.assertEqual(self.fault(lag, [(1, 4, ("lag", 0)), (1, 4, ("window",)), (1, 3, ("window",))]), ("open", -1))
        self.assertEqual(self.fault(lag, [(1, 4, ("lag", 0)), (1, 5, ("window",))]), ("steps", 1))

    def test_low_and_high_of_lags(self):
        project = plain((2, 3), horizon=12, lags=(("end", 0, "start", 1, 3, 5),))
        self.assertEqual(self.fault(project, [(1, 5, ("lag", 0))]), ("open", -1))
        self.assertEqual(self.fault(project, [(1, 6, ("lag", 0))]), ("steps", 0))
        self.assertEqual(self.fault(project, [(0, 0, ("lag", 0))]), ("open", -1))
        self.assertEqual(self.fault(project, [(0, 1, ("lag", 0))]), ("steps", 0))
        late = plain((2, 3), horizon=12, windows=((0, None), (8, None)), lags=(("end", 0, "start", 1, 3, 5),))
        # b starts at 8, so a ends at 3 or later
        self.assertEqual(self.fault(late, [(0, 1, ("lag", 0))]), ("open", -1))
        self.assertEqual(self.fault(late, [(0, 2, ("lag", 0))]), ("steps", 0))
        self.assertEqual(self.fault(late, [(0, 1, ("lag", 0)), (1, 8, ("lag", 0))]), ("open", -1))

    def test_a_step_of_a_where_high_is_none(self):
        project = plain((2, 3), windows=((0, 1), (9, None)), lags=(("end", 0, "start", 1, 3, None),))
        # nothing is left to a, and still a step about it with this lag is none
        self.assertEqual(self.fault(project, [(0, 0, ("lag", 0))]), ("steps", 0))
        self.assertIsNone(self.fault(project, [(1, 50, ("lag", 0))]))
        self.assertIsNone(self.fault(project, []))

    def test_pairs_ahead(self):
        project = plain((2, 3), horizon=12, families=(1, 0), singles=(((0, 1), ((0, 0), (4, 0))),))
        self.assertEqual(self.fault(project, [(1, 6, ("ahead", 0))], ahead=[(0, 1)]), ("open", -1))
        self.assertEqual(self.fault(project, [(1, 7, ("ahead", 0))], ahead=[(0, 1)]), ("steps", 0))
        self.assertEqual(self.fault(project, [(0, 0, ("ahead", 0))], ahead=[(0, 1)]), ("steps", 0))
        self.assertEqual(self.fault(project, [(0, 3, ("ahead", 1))], ahead=[(0, 1), (1, 0)]), ("open", -1))
        self.assertEqual(self.fault(project, [(0, 4, ("ahead", 1))], ahead=[(0, 1), (1, 0)]), ("steps", 0))
        steps = [(0, 3, ("ahead", 1)), (1, 9, ("ahead", 0)), (0, 12, ("ahead", 1))]
        self.assertIsNone(self.fault(project, steps, ahead=[(0, 1), (1, 0)]))
        self.assertEqual(self.fault(project, steps[:2], ahead=[(0, 1), (1, 0)]), ("open", -1))
        self.assertEqual(self.fault(project, steps[1:], ahead=[(0, 1), (1, 0)]), ("steps", 0))

    def test_nothing_is_left_to_the_other_activity(self):
        project = plain((2, 3, 1), horizon=4, windows=((3, None), (0, None), (0, None)),
                        lags=(("start", 0, "start", 1, -9, 9), ("start", 1, "start", 2, 0, None)))
        # nothing is left to a from the first, so each step with its lag stands
        self.assertIsNone(self.fault(project, [(1, 60, ("lag", 0)), (2, GREAT, ("lag", 1))]))
        self.assertIsNone(self.fault(project, [(1, 1, ("ahead", 0))], ahead=[(0, 1)]))
        self.assertEqual(self.fault(project, [(2, 1, ("lag", 1))]), ("steps", 0))
        self.assertEqual(self.fault(project, [(2, 1, ("lag", 0))]), ("steps", 0))
        self.assertEqual(self.fault(project, [(1, 1, ("ahead", 1))], ahead=[(0, 1)]), ("steps", 0))

    def test_what_is_no_step(self):
        lags = (("end", 0, "start", 1, 0, 1), ("start", 1, "end", 1, 0, 60), ("start", 1, "start", 2, 0, None))
        project = plain((9, 9, 0), horizon=10, lags=lags)
        self.assertIsNone(self.fault(project, [(1, 9, ("lag", 0))]))
        wrong = odd_values() + [
            [1, 9, ("lag", 0)], (1, 9), (1, 9, ("lag", 0), 0), (), (1, 9, ["lag", 0]), (1, 9, "lag"), (1, 9, ("lag",)),
            (1, 9, ("lag", 0, 0)), (1, 9, ("lag", 3)), (1, 9, ("lag", -1)), (1, 9, ("lag", True)), (1, 9, ("lag", False)),
            (1, 9, ("lag", None)), (1, 9, ("lag", "0")), (1, 9, ("lag", (0,))), (1, 9, ("Lag", 0)), (1, 9, ("", 0)),
            (1, 9, (b"lag", 0)), (1, 9, ("window", 0)), (1, 9, ("no",)), (1, 9, (None,)), (1, 9, ()), (1, 9, ("ahead",)),
            (1, 9, ("ahead", 1)), (1, 9, ("ahead", -1)), (1, 9, ("ahead", True)), (1, 0, ("lag", 1)), (2, 0, ("lag", 0)),
            (1, 0, ("lag", 2)), (0, 0, ("lag", 2)), (0, 0, ("ahead", 0)), (2, 0, ("ahead", 0)), (0, 0, ("lag", 1)),
            (3, 0, ("window",)), (-1, 0, ("window",)), (True, 0, ("window",)), (None, 0, ("window",)), (1, -1, ("lag", 0)),
            (1, True, ("window",)), (0, False, ("window",)), (0, None, ("window",)), (0, "0", ("window",)), (0, 0, ["window"]),
            (0, 0, "window"), (0, (1, 2), ("window",)), ((0,), 0, ("window",)), (0, 0, None), (0, 0, looped()), (0, 0, {}),
            (0, 0, (("window",),)), (0, 0, ("start", 0)), (0, 0, (1, 2)),
        ]
        for step in wrong:
            self.assertEqual(self.fault(project, [step, None], ahead=[(0, 1)]), ("steps", 0), step)
            rest = [(1, 9, ("lag", 0)), (0, 0, ("window",)), step, step]
            self.assertEqual(self.fault(project, rest, ahead=[(0, 1)]), ("steps", 2), step)
        self.assertIsNone(self.fault(project, [(1, GREAT, ("ahead", 0))], ahead=[(0, 1)]))

    def test_steps_behind_which_something_is_left(self):
        project = plain((2, 3), horizon=9)
        for steps in ([], [(0, 0, ("window",))], [(1, 0, ("window",))] * 30):
            self.assertEqual(self.fault(project, steps), ("open", -1))
        # a bound is never less behind a step
        lag = plain((4, 4), horizon=9, lags=(("end", 0, "start", 1, 0, None), ("start", 0, "start", 1, 0, None)))
        steps = [(1, 4, ("lag", 0)), (1, 0, ("lag", 1)), (1, 5, ("window",))]
        self.assertEqual(self.fault(lag, steps), ("steps", 2))
        self.assertEqual(self.fault(lag, steps[:2] + [(1, 4, ("window",))]), ("open", -1))

    def test_no_list(self):
        for value in no_rows() + [(), ((1, 2, ("lag", 0)),), {}, "", {(1, 2, ("lag", 0))}]:
            if isinstance(value, list):
                continue
            self.assertEqual(self.fault(PLAN, value, most=6), ("steps", -1))

    def test_an_endless_list(self):
        self.assertEqual(self.fault(PLAN, looped()), ("steps", 0))


class Errors(unittest.TestCase):
    def call(self, function, **changed):
        given = {"project": PLAN, "choice": (0, 0), "a": 1, "steps": None, "ahead": [(0, 1)], "most": 6}
        given.update(changed)
        return raised(lambda: function(**{name: given[name] for name in FUNCTIONS[function]}))

    def test_parameters(self):
        for function, names in FUNCTIONS.items():
            signature = inspect.signature(function)
            self.assertEqual(tuple(signature.parameters), names)
            self.assertEqual(function.__module__, module.__name__)
            for name in names:
                parameter = signature.parameters[name]
                if name in ("ahead", "most"):
                    self.assertEqual(parameter.kind, parameter.KEYWORD_ONLY)
                    self.assertEqual(parameter.default, () if name == "ahead" else None)
                else:
                    self.assertEqual(parameter.kind, parameter.POSITIONAL_OR_KEYWORD)
                    self.assertIs(parameter.default, parameter.empty)

    def test_no_project(self):
        for value in odd_values() + [(), [], PLAN.calendars[1], Project]:
            if isinstance(value, Project):
                continue
            for function in FUNCTIONS:
                told = (NoProject, {"part": "project", "index": -1})
                self.assertEqual(self.call(function, project=value), told)
                nothing = {"choice": None, "a": None, "ahead": None, "most": -1}
                self.assertEqual(self.call(function, project=value, **nothing), told)

    def test_no_choice(self):
        for value in no_rows() + [(), (0,), (0, 0, 0), [0, 0], "00", {0: 0, 1: 0}]:
            for function in FUNCTIONS:
                told = (NoChoice, {"index": -1})
                self.assertEqual(self.call(function, choice=value, a=None, ahead=None, most=-1), told)
        for value in odd_values() + [1, "0", (0,)]:
            for function in FUNCTIONS:
                self.assertEqual(self.call(function, choice=(0, value), a=9, ahead=3), (NoChoice, {"index": 1}))
                self.assertEqual(self.call(function, choice=(value, value)), (NoChoice, {"index": 0}))

    def test_no_activity(self):
        for value in odd_values() + [2, -1, "0", (0,), [0], True]:
            for most in (6, -1):
                told = self.call(possible_starts, a=value, most=most)
                self.assertEqual(told[0], NoActivity)
                self.assertIs(told[1]["one"], value)

    def test_no_ahead(self):
        for function in (times, derivation, check_derivation):
            for value in no_rows() + [[(0, 1)] * 21, ((0, 1),) * 21, [None] * 21, {(0, 1): 1}, "01", None]:
                for most in (6, -1):
                    self.assertEqual(self.call(function, ahead=value, most=most), (NoAhead, {"index": -1}))
            for value in wrong_pairs(2):
                self.assertEqual(self.call(function, ahead=[value], most=-1), (NoAhead, {"index": 0}))
                self.assertEqual(self.call(function, ahead=((0, 1), (1, 0), value, value)), (NoAhead, {"index": 2}))
                self.assertEqual(self.call(function, ahead=[(0, 1)] * 19 + [value]), (NoAhead, {"index": 19}))

    def test_no_most(self):
        for value in odd_values() + [-1, "6", (6,), [6], True, PLAN]:
            if value is None or value == 10 ** 30:
                continue
            for function in FUNCTIONS:
                self.assertEqual(self.call(function, most=value), (NoNumber, {"part": "most"}))

    def test_errors_of_steps_come_last(self):
        self.assertEqual(self.call(check_derivation, ahead=3), (NoAhead, {"index": -1}))
        self.assertEqual(self.call(check_derivation, most=True), (NoNumber, {"part": "most"}))
        self.assertEqual(self.call(check_derivation), (NoDerivation, {"part": "steps", "index": -1}))

    def test_left_out_and_by_position(self):
        self.assertEqual(possible_starts(PLAN, (0, 0), 1), possible_starts(PLAN, (0, 0), a=1, most=None))
        self.assertEqual(times(PLAN, (0, 0)), times(project=PLAN, choice=(0, 0), ahead=[], most=None))
        with self.assertRaises(TypeError):
            times(PLAN, (0, 0), [])
        with self.assertRaises(TypeError):
            possible_starts(PLAN, (0, 0), 1, 6)

    def test_nothing_is_changed(self):
        steps, ahead = [(1, 2, ("lag", 0))], [(0, 1)]
        kept = {name: value for name, value in vars(PLAN).items()}
        for _ in range(2):
            self.assertIsNone(check_derivation(PLAN, (0, 0), steps, ahead=ahead, most=6))
            self.assertIsNone(times(PLAN, (0, 0), ahead=ahead, most=6))
            self.assertEqual(derivation(PLAN, (0, 0), ahead=ahead, most=6),
                             derivation(PLAN, (0, 0), ahead=ahead, most=6))
        self.assertEqual((steps, ahead), ([(1, 2, ("lag", 0))], [(0, 1)]))
        self.assertEqual(vars(PLAN), kept)


if __name__ == "__main__":
    unittest.main()
