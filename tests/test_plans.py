"""[55], [56], [57]: plans, their ends, all their faults, their account, and the loads of machines."""

import random
import unittest
from itertools import product

from crewlags.calendars import Calendar
from crewlags.errors import NoChoice, NoNumber, NoPlan, NoProject, NoStarts
from crewlags.plans import account, loads, plan_ends, plan_faults
from crewlags.projects import Project
from tests.project_support import drawn, drawn_project, every_choice, plain, slow_account, slow_end, slow_faults
from tests.support import DIGGING, PLAN, looped, odd_values, raised

GREAT = 10 ** 30
ODD_DAYS = Calendar((True, False))


def faults(project, starts):
    """The faults of a plan with the first mode of each activity."""
    return plan_faults(project, (0,) * len(starts), starts)


class Ends(unittest.TestCase):
    def test_slot_by_slot(self):
        seen = set()
        for seed in range(150):
            project = drawn(seed)
            rnd = random.Random(seed)
            for choice in every_choice(project):
                starts = tuple(rnd.randint(0, 30) for _ in choice)
                told = plan_ends(project, choice, starts)
                self.assertIs(type(told), tuple)
                self.assertEqual(told, tuple(slow_end(project, choice, a, start) for a, start in enumerate(starts)))
                seen.update(end is None for end in told)
        self.assertEqual(seen, {True, False})

    def test_calendars(self):
        calendars = (None, ODD_DAYS, Calendar((True, True, False), changes=((4, False),)))
        project = plain((2, 2, 3), calendars=calendars)
        self.assertEqual(plan_ends(project, (0, 0, 0), (1, 2, 3)), (3, 5, 8))
        self.assertEqual(plan_ends(project, (0, 0, 0), (0, 1, 4)), (2, None, None))
        self.assertEqual(plan_ends(project, (0, 0, 0), (5, 3, 6)), (7, None, 10))

    def test_work_of_none_ends_where_it_starts(self):
        project = plain((0, 1), calendars=(ODD_DAYS, ODD_DAYS))
        self.assertEqual(plan_ends(project, (0, 0), (1, 1)), (1, None))
        self.assertEqual(plan_ends(project, (0, 0), (3, 0)), (3, 1))

    def test_the_chosen_mode(self):
        project = Project(("a",), 9, (), (), (((1, (), (), 0), (4, (), (), 0), (0, (), (), 0)),))
        self.assertEqual([plan_ends(project, (mode,), (3,)) for mode in range(3)], [(4,), (7,), (3,)])

    def test_starts_far_behind_the_horizon(self):
        project = plain((2, 3), calendars=(None, ODD_DAYS))
        self.assertEqual(plan_ends(project, (0, 0), (GREAT, GREAT)), (GREAT + 2, GREAT + 5))
        self.assertEqual(plan_ends(project, (0, 0), (GREAT, GREAT + 1)), (GREAT + 2, None))
        self.assertEqual(plan_ends(project, (0, 0), (0, 0)), (2, 5))


class Faults(unittest.TestCase):
    def test_against_the_words_of_the_document(self):
        seen = {}
        for seed in range(240):
            rnd = random.Random(seed)
            project = drawn_project(rnd, 1 + seed % 5, 9, choices=3)
            for _ in range(8):
                choice = tuple(rnd.randrange(len(modes)) for modes in project.modes)
                starts = tuple(rnd.randint(0, 9) for _ in choice)
                told = plan_faults(project, choice, starts)
                self.assertIs(type(told), list)
                self.assertEqual(told, slow_faults(project, choice, starts))
                for fault in told or [("none",)]:
                    seen[fault[0]] = seen.get(fault[0], 0) + 1
        words = ("none", "rest", "release", "deadline", "horizon", "low", "high", "single", "stock", "together")
        self.assertEqual(set(seen), set(words))
        self.assertGreater(min(seen.values()), 20, seen)

    def test_rest(self):
        project = plain((2, 0, 2), calendars=(ODD_DAYS, ODD_DAYS, None))
        self.assertEqual(faults(project, (1, 1, 1)), [("rest", 0)])
        self.assertEqual(faults(project, (0, 1, 1)), [])
        both = plain((1, 1, 1), calendars=(ODD_DAYS, None, ODD_DAYS))
        self.assertEqual(faults(both, (3, 3, 5)), [("rest", 0), ("rest", 2)])

    def test_release(self):
        project = plain((2, 2), windows=((3, None), (1, None)))
        self.assertEqual(faults(project, (3, 1)), [])
        self.assertEqual(faults(project, (2, 1)), [("release", 0)])
        self.assertEqual(faults(project, (2, 0)), [("release", 0), ("release", 1)])

    def test_deadline(self):
        project = plain((2, 2), windows=((0, 5), (0, None)))
        self.assertEqual(faults(project, (3, 9)), [])
        self.assertEqual(faults(project, (4, 9)), [("deadline", 0)])
        # what goes through slots that do not work ends later
        slow = plain((2,), windows=((0, 5),), calendars=(ODD_DAYS,))
        self.assertEqual(faults(slow, (2,)), [])
        self.assertEqual(faults(slow, (4,)), [("deadline", 0)])

    def test_horizon(self):
        project = plain((2, 0), horizon=10)
        self.assertEqual(faults(project, (8, 10)), [])
        self.assertEqual(faults(project, (9, 11)), [("horizon", 0), ("horizon", 1)])
        self.assertEqual(faults(project, (GREAT, GREAT)), [("horizon", 0), ("horizon", 1)])

    def test_what_needs_an_end_that_there_is_not(self):
        calendars = (ODD_DAYS, None)
        lags = (
            ("start", 0, "start", 1, 5, None), ("end", 0, "start", 1, 50, None), ("start", 1, "end", 0, -60, -50),
            ("start", 1, "start", 0, -9, -3), ("start", 0, "end", 0, 9, None), ("start", 0, "start", 0, 1, None),
            ("end", 0, "end", 0, 1, None),
        )
        project = Project(
            ("a", "b"), 3, (1,), (), (((2, (1,), (), 0),), ((4, (1,), (), 0),)), calendars=calendars, lags=lags,
            windows=((2, 2), (0, 4)), singles=(((0, 1), ((9,),)),),
        )
        told = [("rest", 0), ("release", 0), ("deadline", 1), ("horizon", 1), ("low", 0), ("high", 3), ("low", 5)]
        self.assertEqual(faults(project, (1, 1)), told)
        # with an end there is much more
        self.assertEqual(faults(project, (0, 0)), [
            ("release", 0), ("deadline", 0), ("horizon", 1), ("low", 0), ("low", 1), ("high", 2), ("high", 3), ("low", 4),
            ("low", 5), ("low", 6), ("single", 0, 0, 1), ("together", (0, 1), 0),
        ])

    def test_all_sorts_together_in_their_order(self):
        table = ((0, 2), (1, 0))
        project = Project(
            ("a", "b", "c", "d"), 12, (2, 3), (5, 1),
            (((3, (1, 1), (2, 1), 0),), ((3, (1, 1), (4, 1), 0),), ((3, (1, 1), (0, 0), 0),), ((1, (0, 0), (0, 0), 0),)),
            calendars=(None, None, None, ODD_DAYS), windows=((2, 4), (0, None), (6, 7), (4, None)), families=(0, 1, 0, 1),
            lags=(("start", 0, "start", 2, 8, None), ("end", 0, "end", 1, -9, -1), ("start", 3, "start", 3, 0, 0)),
            singles=(((0, 1), table), ((1, 2, 3), table)), crew=(("x",), ("x",)), asks=((("x", 1),),) * 3 + ((),),
        )
        self.assertEqual(faults(project, (1, 1, 1, 3)), [
            ("rest", 3), ("release", 0), ("release", 2), ("release", 3), ("low", 0), ("high", 1),
            ("single", 0, 0, 1), ("single", 1, 1, 2), ("stock", 0), ("stock", 1), ("together", (0, 1, 2), 1),
        ])
        self.assertEqual(faults(project, (10, 11, 12, 2)), [
            ("release", 3), ("deadline", 0), ("deadline", 2), ("horizon", 0), ("horizon", 1), ("horizon", 2), ("low", 0),
            ("high", 1), ("single", 0, 0, 1), ("single", 1, 1, 2), ("stock", 0), ("stock", 1), ("together", (0, 1, 2), 12),
        ])

    def test_each_kind_of_lag_at_below_and_above(self):
        works = {0: 2, 1: 3}
        for one, other in product(("start", "end"), repeat=2):
            for a, b in ((0, 1), (1, 0), (0, 0)):
                for low, high in ((-2, 3), (0, 0), (2, None), (-5, -5)):
                    project = plain((2, 3), lags=((one, a, other, b, low, high),))
                    for starts in product(range(12), repeat=2):
                        first = starts[a] + (works[a] if one == "end" else 0)
                        second = starts[b] + (works[b] if other == "end" else 0)
                        told = []
                        if second < first + low:
                            told = [("low", 0)]
                        elif high is not None and second > first + high:
                            told = [("high", 0)]
                        self.assertEqual(faults(project, starts), told)

    def test_lags_by_their_index(self):
        lag = ("end", 0, "start", 1, 1, 2)
        project = plain((2, 2), lags=(lag, ("start", 0, "start", 0, 0, None), lag))
        self.assertEqual(faults(project, (0, 2)), [("low", 0), ("low", 2)])
        self.assertEqual(faults(project, (0, 5)), [("high", 0), ("high", 2)])
        self.assertEqual(faults(project, (0, 3)), [])
        self.assertEqual(faults(project, (0, 4)), [])

    def test_set_ups_differ_by_direction(self):
        project = plain((2, 3), families=(0, 1), singles=(((0, 1), ((9, 4), (1, 9))),))
        fault = [("single", 0, 0, 1)]
        for starts, told in (
            ((0, 6), []), ((0, 5), fault), ((0, 2), fault), ((0, 0), fault), ((4, 0), []), ((3, 0), fault), ((5, 0), []),
            ((0, 7), []), ((2, 0), fault), ((10, 16), []), ((10, 15), fault), ((14, 10), []), ((13, 10), fault),
        ):
            self.assertEqual(faults(project, starts), told, starts)

    def test_singles_at_ends_without_set_up(self):
        project = plain((2, 3, 0), singles=(((0, 1, 2), ((0,),)),))
        self.assertEqual(faults(project, (0, 2, 0)), [])
        self.assertEqual(faults(project, (0, 1, 5)), [("single", 0, 0, 1)])
        self.assertEqual(faults(project, (3, 0, 5)), [])
        # the work 0 within another one, at its ends, and two of them at one time
        self.assertEqual(faults(project, (0, 2, 1)), [("single", 0, 0, 2)])
        self.assertEqual(faults(project, (0, 2, 2)), [])
        self.assertEqual(faults(project, (0, 2, 4)), [("single", 0, 1, 2)])
        twice = plain((0, 0), singles=(((0, 1), ((0,),)),))
        self.assertEqual(faults(twice, (4, 4)), [])
        apart = plain((0, 0), singles=(((0, 1), ((1,),)),))
        self.assertEqual(faults(apart, (4, 4)), [("single", 0, 0, 1)])
        self.assertEqual(faults(apart, (5, 4)), [])

    def test_singles_by_their_index_and_members(self):
        singles = (((1, 3), ((0,),)), ((0, 2, 3), ((2,),)))
        project = plain((2, 2, 2, 2), singles=singles)
        told = [("single", 0, 1, 3), ("single", 1, 0, 2), ("single", 1, 0, 3), ("single", 1, 2, 3)]
        self.assertEqual(faults(project, (0, 0, 0, 0)), told)
        self.assertEqual(faults(project, (0, 0, 4, 8)), [])
        self.assertEqual(faults(project, (0, 9, 3, 8)), [("single", 0, 1, 3), ("single", 1, 0, 2)])

    def test_stocks(self):
        modes = (((1, (), (2, 3), 0), (1, (), (0, 0), 0)), ((1, (), (3, 1), 0),))
        for stocks, told in (
            ((5, 4), []), ((4, 4), [("stock", 0)]), ((5, 3), [("stock", 1)]), ((4, 3), [("stock", 0), ("stock", 1)]),
            ((6, 5), []),
        ):
            project = Project(("a", "b"), 9, (), stocks, modes)
            self.assertEqual(plan_faults(project, (0, 0), (0, 0)), told)
            self.assertEqual(plan_faults(project, (1, 0), (0, 0)), [])

    def test_least_sets_alone(self):
        machines = ((2, (1, 1, 1, 0)), (3, (2, 0, 0, 2)))
        modes = tuple(((2, tuple(machine[1][a] for machine in machines), (), 0),) for a in range(4))
        project = Project(("a", "b", "c", "d"), 20, (2, 3), (), modes)
        self.assertEqual(faults(project, (0, 0, 0, 0)), [("together", (0, 3), 0), ("together", (0, 1, 2), 0)])
        self.assertEqual(faults(project, (0, 0, 0, 2)), [("together", (0, 1, 2), 0)])
        self.assertEqual(faults(project, (0, 0, 1, 1)), [("together", (0, 3), 1), ("together", (0, 1, 2), 1)])
        self.assertEqual(faults(project, (1, 0, 2, 0)), [("together", (0, 3), 1)])

    def test_pairs_that_overlap_one_by_one_but_not_at_one_time(self):
        project = Project(("a", "b", "c"), 20, (2,), (), (((4, (1,), (), 0),), ((2, (1,), (), 0),), ((2, (1,), (), 0),)))
        self.assertEqual(faults(project, (0, 0, 2)), [])
        self.assertEqual(faults(project, (0, 0, 1)), [("together", (0, 1, 2), 1)])
        # three of which each two overlap have a time in common
        for starts in product(range(7), repeat=3):
            works = (4, 2, 2)
            common = max(starts) < min(start + work for start, work in zip(starts, works))
            self.assertEqual(faults(project, starts), [("together", (0, 1, 2), max(starts))] if common else [])

    def test_activities_of_no_length(self):
        project = Project(("a", "b", "c"), 20, (1,), (), (((4, (1,), (), 0),), ((0, (1,), (), 0),), ((0, (1,), (), 0),)))
        self.assertEqual(faults(project, (2, 2, 6)), [])
        self.assertEqual(faults(project, (2, 3, 5)), [("together", (0, 1), 3), ("together", (0, 2), 5)])
        self.assertEqual(faults(project, (2, 3, 3)), [("together", (0, 1), 3), ("together", (0, 2), 3)])
        self.assertEqual(faults(project, (8, 3, 3)), [])

    def test_slots_that_do_not_work_are_held_too(self):
        project = Project(
            ("a", "b"), 20, (1,), (), (((2, (1,), (), 0),), ((1, (1,), (), 0),)), calendars=(Calendar((True, False, False)), None),
        )
        self.assertEqual(faults(project, (0, 2)), [("together", (0, 1), 2)])
        self.assertEqual(faults(project, (0, 4)), [])

    def test_the_crew(self):
        crew = (("x",), ("x", "y"))
        asks = ((("x", 1),), (("x", 1), ("y", 1)), (("y", 1),))
        modes = (((2, (), (), 0),),) * 3
        project = Project(("a", "b", "c"), 20, (), (), modes, crew=crew, asks=asks)
        self.assertEqual(faults(project, (0, 0, 0)), [("together", (0, 1), 0), ("together", (1, 2), 0)])
        self.assertEqual(faults(project, (0, 2, 0)), [])

    def test_example(self):
        self.assertEqual(plan_faults(DIGGING, (0, 0), (0, 1)), [("together", (0, 1), 1)])
        self.assertEqual(plan_faults(DIGGING, (0, 0), (0, 2)), [])

    def test_a_list_of_its_own(self):
        told = plan_faults(DIGGING, (0, 0), (0, 1))
        told.clear()
        self.assertEqual(plan_faults(DIGGING, (0, 0), (0, 1)), [("together", (0, 1), 1)])


class Account(unittest.TestCase):
    def test_against_the_words_of_the_document(self):
        seen = 0
        for seed in range(240):
            project = drawn(seed)
            rnd = random.Random(seed)
            for choice in every_choice(project):
                starts = tuple(rnd.randint(0, 12) for _ in choice)
                ends = [slow_end(project, choice, a, start) for a, start in enumerate(starts)]
                if None in ends:
                    told = (NoPlan, {"fault": ("rest", ends.index(None))})
                    self.assertEqual(raised(lambda: account(project, choice, starts)), told)
                    continue
                self.assertEqual(account(project, choice, starts), slow_account(project, choice, starts))
                seen += 1
        self.assertGreater(seen, 200)

    def test_overhead_and_late(self):
        modes = (((2, (), (), 5), (1, (), (), 9)), ((3, (), (), 1),))
        for overhead, late, told in (
            (0, (), (5, 6, ())), (7, (), (5, 41, ())), (0, (None, None), (5, 6, ())), (0, (None, (5, 9)), (5, 6, ())),
            (0, (None, (6, 9)), (5, 6, ())), (0, (None, (4, 9)), (5, 15, ())), (0, (None, (2, 9)), (5, 33, ())),
            (2, ((0, 3), (4, 10)), (5, 32, ())), (0, ((2, 3), None), (5, 6, ())), (0, ((1, 3), None), (5, 9, ())),
        ):
            project = Project(("a", "b"), 20, (), (), modes, overhead=overhead, late=late)
            self.assertEqual(account(project, (0, 0), (0, 2)), told)
        self.assertEqual(account(Project(("a", "b"), 20, (), (), modes), (1, 0), (0, 2)), (5, 10, ()))

    def test_uses_of_each_stock(self):
        modes = (((1, (), (2, 0), 0), (1, (), (7, 1), 0)), ((1, (), (3, 4), 0),))
        project = Project(("a", "b"), 20, (), (5, 5), modes)
        self.assertEqual(account(project, (0, 0), (0, 0)), (1, 0, (5, 4)))
        # more than there is counts, too
        self.assertEqual(account(project, (1, 0), (3, 0)), (4, 0, (10, 5)))

    def test_of_plans_that_keep_nothing(self):
        self.assertEqual(account(DIGGING, (0, 0), (0, 0)), (3, 36, ()))
        self.assertEqual(account(DIGGING, (0, 0), (0, GREAT)), (GREAT + 3, 17 * GREAT + 29, ()))

    def test_example(self):
        self.assertEqual(account(DIGGING, (0, 0), (0, 2)), (5, 63, ()))

    def test_the_first_that_cannot_start(self):
        project = plain((1, 1, 1), calendars=(None, ODD_DAYS, ODD_DAYS))
        self.assertEqual(raised(lambda: account(project, (0, 0, 0), (0, 1, 1))), (NoPlan, {"fault": ("rest", 1)}))
        self.assertEqual(raised(lambda: account(project, (0, 0, 0), (0, 0, 1))), (NoPlan, {"fault": ("rest", 2)}))


def two(one, other, works=(2, 3), capacity=5):
    """Two activities with demands for one machine."""
    modes = tuple(((work, (demand,), (), 0),) for work, demand in zip(works, (one, other)))
    return Project(("a", "b"), 20, (capacity,), (), modes)


class Loads(unittest.TestCase):
    def test_slot_by_slot(self):
        changes = 0
        for seed in range(240):
            project = drawn(seed)
            rnd = random.Random(seed)
            for choice in every_choice(project)[:4]:
                starts = tuple(rnd.randint(0, 8) for _ in choice)
                ends = [slow_end(project, choice, a, start) for a, start in enumerate(starts)]
                for machine in range(len(project.machines)):
                    if None in ends:
                        told = (NoPlan, {"fault": ("rest", ends.index(None))})
                        self.assertEqual(raised(lambda: loads(project, choice, starts, machine)), told)
                        continue
                    right = []
                    for time in range(max(ends) + 1):
                        load = sum(
                            project.modes[a][choice[a]][1][machine] for a in range(len(starts)) if starts[a] <= time < ends[a]
                        )
                        if load != (right[-1][1] if right else 0):
                            right.append((time, load))
                    told = loads(project, choice, starts, machine)
                    self.assertIs(type(told), list)
                    self.assertEqual(told, right)
                    changes += len(told) > 2
        self.assertGreater(changes, 20)

    def test_no_change_of_the_load(self):
        self.assertEqual(loads(two(2, 2), (0, 0), (0, 2), 0), [(0, 2), (5, 0)])
        self.assertEqual(loads(two(2, 2), (0, 0), (3, 0), 0), [(0, 2), (5, 0)])
        self.assertEqual(loads(two(2, 1), (0, 0), (0, 2), 0), [(0, 2), (2, 1), (5, 0)])
        self.assertEqual(loads(two(2, 2), (0, 0), (0, 3), 0), [(0, 2), (2, 0), (3, 2), (6, 0)])

    def test_together(self):
        self.assertEqual(loads(two(2, 1), (0, 0), (1, 0), 0), [(0, 1), (1, 3), (3, 0)])
        self.assertEqual(loads(two(2, 1), (0, 0), (4, 4), 0), [(4, 3), (6, 1), (7, 0)])
        # more than the capacity
        self.assertEqual(loads(two(5, 4), (0, 0), (0, 1), 0), [(0, 5), (1, 9), (2, 4), (4, 0)])

    def test_of_no_length_and_of_no_demand(self):
        self.assertEqual(loads(two(2, 3, works=(0, 0)), (0, 0), (0, 2), 0), [])
        self.assertEqual(loads(two(2, 3, works=(0, 4)), (0, 0), (1, 0), 0), [(0, 3), (4, 0)])
        self.assertEqual(loads(two(0, 0), (0, 0), (0, 2), 0), [])
        self.assertEqual(loads(two(0, 4), (0, 0), (0, 1), 0), [(1, 4), (4, 0)])

    def test_each_machine_alone(self):
        project = Project(("a",), 9, (2, 3), (), (((2, (1, 0), (), 0), (3, (0, 3), (), 0)),))
        told = [loads(project, (mode,), (4,), machine) for mode in range(2) for machine in range(2)]
        self.assertEqual(told, [[(4, 1), (6, 0)], [], [], [(4, 3), (7, 0)]])

    def test_far_behind_the_horizon_and_through_slots_that_do_not_work(self):
        self.assertEqual(loads(two(2, 1), (0, 0), (GREAT, 0), 0), [(0, 1), (3, 0), (GREAT, 2), (GREAT + 2, 0)])
        project = Project(("a",), 9, (2,), (), (((2, (1,), (), 0),),), calendars=(ODD_DAYS,))
        self.assertEqual(loads(project, (0,), (2,), 0), [(2, 1), (5, 0)])

    def test_example(self):
        self.assertEqual(loads(DIGGING, (0, 0), (0, 2), 0), [(0, 2), (5, 0)])

    def test_no_machine(self):
        for value in odd_values() + [1, -1, "0", (0,), [0], True, False]:
            told = (NoNumber, {"part": "machine"})
            self.assertEqual(raised(lambda: loads(DIGGING, (0, 0), (0, 2), value)), told)
        self.assertEqual(raised(lambda: loads(plain((1,)), (0,), (0,), 0)), (NoNumber, {"part": "machine"}))

    def test_the_machine_comes_ahead_of_the_plan(self):
        modes = (((1, (1,), (), 0),), ((1, (1,), (), 0),))
        project = Project(("a", "b"), 9, (2,), (), modes, calendars=(None, ODD_DAYS))
        self.assertEqual(raised(lambda: loads(project, (0, 0), (0, 1), 1)), (NoNumber, {"part": "machine"}))
        self.assertEqual(raised(lambda: loads(project, (0, 0), (0, 1), 0)), (NoPlan, {"fault": ("rest", 1)}))


class Errors(unittest.TestCase):
    CALLS = (
        plan_ends, plan_faults, account,
        lambda project, choice, starts: loads(project, choice, starts, None),
    )

    def refused(self, told, project, choice, starts):
        for call in self.CALLS:
            self.assertEqual(raised(lambda: call(project, choice, starts)), told)

    def test_no_project(self):
        for value in odd_values() + [(), [], PLAN.calendars[1], Project]:
            if not isinstance(value, Project):
                for choice in ((0, 0), None):
                    self.refused((NoProject, {"part": "project", "index": -1}), value, choice, None)

    def test_no_choice(self):
        for value in odd_values() + [(), (0,), (0, 0, 0), [0, 0], "00", {0: 0, 1: 0}]:
            for starts in ((0, 0), None):
                self.refused((NoChoice, {"index": -1}), PLAN, value, starts)
        for value in odd_values() + [1, "0", (0,), -1]:
            self.refused((NoChoice, {"index": 1}), PLAN, (0, value), None)
            self.refused((NoChoice, {"index": 0}), PLAN, (value, value), None)

    def test_no_starts(self):
        for value in odd_values() + [(), (0,), (0, 0, 0), [0, 0], [], "00", {0: 0, 1: 0}, 0]:
            self.refused((NoStarts, {"index": -1}), PLAN, (0, 0), value)
        for value in odd_values() + [-1, "0", (0,), [0], (1, 2), looped(), True, False]:
            if value != GREAT:
                self.refused((NoStarts, {"index": 0}), PLAN, (0, 0), (value, value))
                self.refused((NoStarts, {"index": 1}), PLAN, (0, 0), (0, value))


if __name__ == "__main__":
    unittest.main()
