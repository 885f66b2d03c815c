"""[58]: rotas, and what is none."""

import random
import unittest

from crewlags.calendars import Calendar
from crewlags.errors import NoChoice, NoPlan, NoProject, NoRota, NoStarts
from crewlags.plans import plan_faults
from crewlags.projects import Project
from crewlags.rotas import check_rota, rota
from tests.project_support import drawn, drawn_project, every_choice, good_rows, plain, slow_end
from tests.support import DIGGING, PLAN, no_rows, odd_values, raised

GREAT = 10 ** 30
SHIFTS = [(0, 2, 0, 0, "dig"), (2, 5, 1, 1, "lift")]


def crewed(works, crew, asks, **parts):
    """A project with a crew and without machines."""
    return plain(works, crew=crew, asks=asks, **parts)


def fault(project, starts, shifts):
    """The part and the index that check_rota tells, or None."""
    told = raised(lambda: check_rota(project, (0,) * len(starts), starts, shifts))
    if told is None:
        return None
    assert told[0] is NoRota, told
    return told[1]["part"], told[1]["index"]


def serves(project, choice, starts, shifts):
    """Whether shifts serve all that is asked for, slot by slot, no worker twice."""
    for a, start in enumerate(starts):
        for time in range(start, slow_end(project, choice, a, start)):
            for skill, many in project.asks[a] if project.asks else ():
                now = [shift for shift in shifts if shift[0] <= time < shift[1]]
                if len({shift[2] for shift in now}) < len(now):
                    return False
                if len([shift for shift in now if shift[3] == a and shift[4] == skill]) < many:
                    return False
    return True


class Rota(unittest.TestCase):
    def check(self, project, choice, starts):
        told = rota(project, choice, starts)
        self.assertIs(type(told), list)
        self.assertIsNone(check_rota(project, choice, starts, told))
        self.assertTrue(serves(project, choice, starts, told))
        return told

    def test_plans_of_drawn_projects(self):
        several = changing = 0
        for seed in range(300):
            project = drawn(seed)
            for choice in every_choice(project):
                rows = good_rows(seed, choice)
                for starts in random.Random(seed).sample(rows, min(3, len(rows))):
                    told = self.check(project, choice, starts)
                    several += any(one[0] < other[1] and other[0] < one[1] and one[3] == other[3]
                                   for one in told for other in told if one is not other)
                    changing += len({shift[2:] for shift in told}) < len(told)
        self.assertGreater(several, 20)
        self.assertGreater(changing, 5)

    def test_five_activities(self):
        seen = 0
        for seed in range(400):
            rnd = random.Random(seed)
            project = drawn_project(rnd, 5, 12)
            choice = tuple(rnd.randrange(len(modes)) for modes in project.modes)
            for _ in range(20):
                starts = tuple(rnd.randint(0, 9) for _ in choice)
                if not plan_faults(project, choice, starts):
                    seen += len(self.check(project, choice, starts)) > 3
        self.assertGreater(seen, 10)

    def test_workers_have_to_change_while_an_activity_goes_on(self):
        crew = (("x", "y"), ("x", "z"), ("y", "z"))
        asks = ((("x", 1),), (("y", 1), ("z", 1)), (("x", 1), ("z", 1)))
        # at first x has to be served by the worker who is not needed for y and z, later y by none
        project = crewed((9, 3, 3), crew, asks)
        for second in range(7):
            for third in range(7):
                starts = (0, second, third)
                if not plan_faults(project, (0, 0, 0), starts):
                    self.check(project, (0, 0, 0), starts)
        crew = (("x", "y"), ("x", "z"))
        project = crewed((6, 2, 2), crew, ((("x", 1),), (("y", 1),), (("z", 1),)))
        told = self.check(project, (0, 0, 0), (0, 0, 3))
        self.assertEqual({shift[2] for shift in told if shift[3] == 0}, {0, 1})

    def test_several_asked_for_in_several_skills(self):
        crew = (("x", "y"), ("y", "x"), ("x",), ("y",), ("z",))
        project = crewed((3,), crew, ((("y", 2), ("x", 2), ("z", 1)),))
        told = self.check(project, (0,), (4,))
        self.assertEqual(sorted(shift[4] for shift in told), ["x", "x", "y", "y", "z"])
        self.assertTrue(all(shift[:2] == (4, 7) and shift[3] == 0 for shift in told))

    def test_nothing_is_asked_for(self):
        self.assertEqual(rota(plain((3, 2)), (0, 0), (0, 0)), [])
        self.assertEqual(rota(crewed((3, 2), (("x",),), ((), ())), (0, 0), (0, 0)), [])
        self.assertEqual(rota(crewed((0, 0), (("x",),), ((("x", 1),), (("x", 1),))), (0, 0), (0, 0)), [])
        self.assertIsNone(check_rota(plain((3, 2)), (0, 0), (0, 0), []))

    def test_activities_of_no_length_are_served_by_nobody(self):
        project = crewed((4, 0), (("x",), ("y",)), ((("x", 1),), (("y", 1),)))
        self.assertEqual(rota(project, (0, 0), (0, 2)), [(0, 2, 0, 0, "x"), (2, 4, 0, 0, "x")])
        self.assertIsNone(fault(project, (0, 2), [(0, 4, 0, 0, "x")]))
        self.assertEqual(fault(project, (0, 2), [(0, 4, 0, 0, "x"), (2, 3, 1, 1, "y")]), ("rota", 1))

    def test_example(self):
        self.assertIsNone(check_rota(DIGGING, (0, 0), (0, 2), SHIFTS))
        self.assertIsNone(check_rota(DIGGING, (0, 0), (0, 2), rota(DIGGING, (0, 0), (0, 2))))

    def test_a_list_of_its_own(self):
        rota(DIGGING, (0, 0), (0, 2)).clear()
        self.assertEqual(len(rota(DIGGING, (0, 0), (0, 2))), 2)


class CheckRota(unittest.TestCase):
    def setUp(self):
        self.project = crewed((4, 3), (("x", "y"), ("y",), ("x",)), ((("x", 1), ("y", 1)), (("x", 1),)))
        self.starts = (2, 6)
        self.shifts = [(2, 6, 0, 0, "x"), (2, 6, 1, 0, "y"), (6, 9, 0, 1, "x")]

    def fault(self, shifts):
        return fault(self.project, self.starts, shifts)

    def with_item(self, at, item):
        return self.fault(self.shifts[:at] + [item] + self.shifts[at + 1:])

    def test_what_is_one(self):
        self.assertIsNone(self.fault(self.shifts))
        self.assertIsNone(self.fault(self.shifts[::-1]))
        parts = [(2, 3, 0, 0, "x"), (3, 6, 2, 0, "x"), (5, 6, 1, 0, "y"), (2, 5, 1, 0, "y"), (6, 9, 0, 1, "x")]
        self.assertIsNone(self.fault(parts))

    def test_no_list(self):
        for value in no_rows() + [(), tuple(self.shifts), {}, "", None, {0: self.shifts[0]}]:
            if not isinstance(value, list):
                self.assertEqual(self.fault(value), ("rota", -1))

    def test_no_shift(self):
        wrong = odd_values() + [
            (), (2, 6, 0, 0), (2, 6, 0, 0, "x", 0), [2, 6, 0, 0, "x"], "26 00", (2, 2, 0, 0, "x"), (6, 2, 0, 0, "x"),
            (-1, 6, 0, 0, "x"), (1, 6, 0, 0, "x"), (2, 7, 0, 0, "x"), (6, 7, 0, 0, "x"), (0, 1, 0, 0, "x"), (7, 9, 0, 0, "x"),
            (2, 6, 3, 0, "x"), (2, 6, -1, 0, "x"), (2, 6, 0, 2, "x"), (2, 6, 0, -1, "x"), (2, 6, 0, 0, "z"),
            (2, 6, 1, 0, "x"), (6, 9, 0, 1, "y"), (2, 6, 0, 1, "x"), (5, 9, 0, 1, "x"), (6, 10, 0, 1, "x"),
            (GREAT, GREAT + 1, 0, 0, "x"), (2, GREAT, 0, 0, "x"), (-GREAT, 6, 0, 0, "x"),
        ]
        for value in odd_values() + ["2", (2,), [2], True]:
            wrong += [(value, 6, 0, 0, "x"), (2, value, 0, 0, "x"), (2, 6, value, 0, "x"), (2, 6, 0, value, "x"),
                      (2, 6, 0, 0, value)]
        for item in wrong:
            for at in range(3):
                self.assertEqual(self.with_item(at, item), ("rota", at), item)
            self.assertEqual(self.fault(self.shifts + [item, None]), ("rota", 3))
            self.assertEqual(self.fault([item]), ("rota", 0))

    def test_bools_are_no_integers(self):
        project = crewed((2, 2), (("x",), ("x",)), ((("x", 1),), (("x", 1),)))
        right = [(0, 2, 0, 0, "x"), (0, 2, 1, 1, "x")]
        self.assertIsNone(fault(project, (0, 0), right))
        for item in ((0, 2, True, 1, "x"), (0, 2, 1, True, "x"), (False, 2, 1, 1, "x"), (0, True, 1, 1, "x")):
            self.assertEqual(fault(project, (0, 0), [right[0], item]), ("rota", 1))
        for item in ((0, 2, False, 0, "x"), (0, 2, 0, False, "x"), (False, 2, 0, 0, "x")):
            self.assertEqual(fault(project, (0, 0), [item, right[1]]), ("rota", 0))

    def test_a_worker_with_two_shifts_at_one_time(self):
        for start, end, told in ((2, 6, 3), (2, 3, 3), (3, 5, 3), (5, 6, 3), (4, 6, 3)):
            self.assertEqual(self.fault(self.shifts + [(start, end, 0, 0, "y")]), ("rota", told))
            self.assertEqual(self.fault(self.shifts + [(start, end, 0, 0, "x")]), ("rota", told))
        # the later one in the list is the one that is none
        self.assertEqual(self.fault([(2, 6, 1, 0, "y"), (3, 4, 0, 0, "y"), (2, 6, 0, 0, "x")]), ("rota", 2))
        self.assertEqual(self.fault([(2, 4, 0, 0, "x"), (4, 6, 0, 0, "x"), (3, 5, 0, 0, "x")]), ("rota", 2))

    def test_one_that_begins_where_another_one_ends(self):
        rows = [(2, 4, 0, 0, "x"), (4, 6, 0, 0, "x"), (2, 6, 1, 0, "y"), (6, 9, 0, 1, "x")]
        self.assertIsNone(self.fault(rows))
        self.assertIsNone(self.fault([rows[1], rows[0]] + rows[2:]))
        swapped = [(2, 4, 0, 0, "x"), (4, 6, 2, 0, "x"), (2, 4, 1, 0, "y"), (4, 6, 0, 0, "y"), (6, 9, 2, 1, "x")]
        self.assertIsNone(self.fault(swapped))

    def test_shifts_that_leave_something_out(self):
        self.assertEqual(self.fault([]), ("lack", 0))
        self.assertEqual(self.fault(self.shifts[:1]), ("lack", 0))
        self.assertEqual(self.fault(self.shifts[1:]), ("lack", 0))
        self.assertEqual(self.fault(self.shifts[:2]), ("lack", 1))
        for at, item in (
            (0, (3, 6, 0, 0, "x")), (0, (2, 5, 0, 0, "x")), (1, (3, 6, 1, 0, "y")), (1, (2, 5, 1, 0, "y")),
        ):
            self.assertEqual(self.with_item(at, item), ("lack", 0), item)
        for item in ((7, 9, 0, 1, "x"), (6, 8, 0, 1, "x"), (7, 8, 0, 1, "x")):
            self.assertEqual(self.with_item(2, item), ("lack", 1), item)
        # a gap in between
        self.assertEqual(self.fault(self.shifts[1:] + [(2, 3, 0, 0, "x"), (4, 6, 0, 0, "x")]), ("lack", 0))
        self.assertEqual(self.fault(self.shifts[1:] + [(2, 3, 0, 0, "x"), (4, 6, 2, 0, "x")]), ("lack", 0))
        self.assertIsNone(self.fault(self.shifts[1:] + [(2, 3, 0, 0, "x"), (3, 6, 2, 0, "x")]))

    def test_fewer_workers_than_are_asked_for(self):
        project = crewed((4,), (("x",),) * 3, ((("x", 2),),))
        self.assertEqual(fault(project, (1,), [(1, 5, 0, 0, "x")]), ("lack", 0))
        self.assertIsNone(fault(project, (1,), [(1, 5, 0, 0, "x"), (1, 5, 2, 0, "x")]))
        self.assertIsNone(fault(project, (1,), [(1, 3, 0, 0, "x"), (1, 5, 2, 0, "x"), (3, 5, 1, 0, "x")]))
        self.assertEqual(fault(project, (1,), [(1, 3, 0, 0, "x"), (1, 5, 2, 0, "x"), (4, 5, 1, 0, "x")]), ("lack", 0))
        self.assertEqual(fault(project, (1,), [(1, 4, 0, 0, "x"), (1, 5, 2, 0, "x")]), ("lack", 0))

    def test_more_than_are_asked_for(self):
        project = crewed((4,), (("x",),) * 3, ((("x", 1),),))
        rows = [(1, 5, at, 0, "x") for at in range(3)]
        for many in (1, 2, 3):
            self.assertIsNone(fault(project, (1,), rows[:many]))
        self.assertIsNone(fault(project, (1,), [(2, 3, 0, 0, "x"), (1, 5, 1, 0, "x")]))

    def test_one_skill_is_not_served_by_the_other(self):
        project = crewed((2,), (("x", "y"), ("x", "y")), ((("x", 1), ("y", 1)),))
        self.assertEqual(fault(project, (0,), [(0, 2, 0, 0, "x"), (0, 2, 1, 0, "x")]), ("lack", 0))
        self.assertIsNone(fault(project, (0,), [(0, 2, 0, 0, "x"), (0, 2, 1, 0, "y")]))

    def test_one_activity_is_not_served_by_who_serves_the_other(self):
        project = crewed((2, 2), (("x",), ("x",)), ((("x", 1),), (("x", 1),)))
        self.assertEqual(fault(project, (0, 0), [(0, 2, 0, 0, "x"), (0, 2, 1, 0, "x")]), ("lack", 1))
        self.assertEqual(fault(project, (0, 0), [(0, 2, 0, 1, "x"), (0, 2, 1, 1, "x")]), ("lack", 0))
        self.assertIsNone(fault(project, (0, 0), [(0, 2, 0, 1, "x"), (0, 2, 1, 0, "x")]))

    def test_which_error_is_told_where_several_apply(self):
        self.assertEqual(self.fault([(2, 6, 0, 0, "x"), None, 7]), ("rota", 1))
        self.assertEqual(self.fault([(2, 6, 0, 0, "x"), (2, 6, 0, 0, "x")]), ("rota", 1))
        self.assertEqual(self.fault([(7, 9, 0, 1, "x")]), ("lack", 0))

    def test_the_whole_time_through_slots_that_do_not_work(self):
        project = crewed((2,), (("x",),), ((("x", 1),),), calendars=(Calendar((True, False, False)),))
        self.assertIsNone(fault(project, (0,), [(0, 4, 0, 0, "x")]))
        self.assertEqual(fault(project, (0,), [(0, 1, 0, 0, "x"), (3, 4, 0, 0, "x")]), ("lack", 0))
        self.assertEqual(sorted(rota(project, (0,), (0,)))[-1][1], 4)


class Errors(unittest.TestCase):
    def refused(self, told, project, choice, starts):
        self.assertEqual(raised(lambda: rota(project, choice, starts)), told)
        for shifts in ([], None, [None], SHIFTS):
            self.assertEqual(raised(lambda: check_rota(project, choice, starts, shifts)), told)

    def test_no_project_no_choice_no_starts(self):
        for value in odd_values():
            if not isinstance(value, Project):
                self.refused((NoProject, {"part": "project", "index": -1}), value, None, None)
            self.refused((NoChoice, {"index": -1}), DIGGING, value, None)
            self.refused((NoChoice, {"index": 1}), DIGGING, (0, value), None)
            self.refused((NoStarts, {"index": -1}), DIGGING, (0, 0), value)
            if value != GREAT:
                self.refused((NoStarts, {"index": 1}), DIGGING, (0, 0), (0, value))

    def test_the_first_fault_of_the_plan_comes_ahead_of_the_shifts(self):
        self.refused((NoPlan, {"fault": ("together", (0, 1), 1)}), DIGGING, (0, 0), (0, 1))
        self.refused((NoPlan, {"fault": ("horizon", 1)}), DIGGING, (0, 0), (17, 18))
        self.refused((NoPlan, {"fault": ("rest", 1)}), PLAN, (0, 0), (0, 1))
        self.refused((NoPlan, {"fault": ("low", 0)}), PLAN, (0, 0), (0, 0))


if __name__ == "__main__":
    unittest.main()
