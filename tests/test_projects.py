"""[50], [51]: Project, its attributes, what it refuses; choices and shape_of."""

import inspect
import unittest

from crewlags import projects
from crewlags.calendars import Calendar
from crewlags.errors import NoChoice, NoProject, NoShape
from crewlags.projects import Project, shape_of
from crewlags.shapes import Shape, allowed_sets
from tests.support import WEEK, looped, no_rows, odd_values, raised

PARTS = (
    "names", "horizon", "machines", "stocks", "modes", "calendars", "windows", "families", "lags", "singles", "crew",
    "asks", "overhead", "late",
)
LEFT_OUT = PARTS[5:]
ODD = odd_values() + [Project, NoShape("a", 1)]


def whole():
    """The parts of a project of three activities that has something of everything."""
    return {
        "names": ("a", "b", "c"), "horizon": 40, "machines": (3, 5), "stocks": (9,),
        "modes": (
            ((2, (1, 0), (3,), 5), (4, (0, 5), (0,), 1)), ((0, (3, 5), (9,), 0),),
            ((60, (0, 0), (1000,), 1000), (1, (1, 1), (1,), 1), (1, (2, 2), (0,), 2)),
        ),
        "calendars": (None, WEEK, Calendar((True,))), "windows": ((0, 40), (3, None), (60, 0)), "families": (0, 2, 1),
        "lags": (("start", 0, "end", 1, -3, None), ("end", 2, "end", 2, 0, 0)),
        "singles": (((0, 1), ((0, 1, 2), (3, 0, 4), (5, 60, 0))), ((1, 2), ((0, 0, 0),) * 3)),
        "crew": (("x", "y"), ("x",), ()), "asks": ((("x", 2),), (), (("y", 1), ("x", 1))), "overhead": 7,
        "late": (None, (3, 4), (0, 0)),
    }


def other_parts():
    """For each part another value that is as right."""
    return {
        "names": ("a", "b", "d"), "horizon": 41, "machines": (3, 6), "stocks": (10,),
        "modes": whole()["modes"][:2] + (((60, (0, 0), (1000,), 1000),),), "calendars": (), "windows": (),
        "families": (0, 2, 2), "lags": (), "singles": whole()["singles"][:1],
        "crew": (("x", "y"), ("x",)), "asks": (), "overhead": 8, "late": (None, (3, 4), None),
    }


def project(**parts):
    """The whole project with other parts."""
    return Project(**{**whole(), **parts})


def plain(many, **parts):
    """A project of so many activities without anything."""
    modes = parts.pop("modes", (((1, (), (), 0),),) * many)
    return Project(tuple("abcdefgh"[:many]), 20, (), (), modes, **parts)


class Parts(unittest.TestCase):
    def refused(self, part, index, value, **parts):
        """That a value of a part is refused, whatever is wrong behind it."""
        told = (NoProject, {"part": part, "index": index})
        self.assertEqual(raised(lambda: project(**{part: value}, **parts)), told)
        behind = {name: None for name in PARTS[PARTS.index(part) + 1:]}
        self.assertEqual(raised(lambda: project(**{**parts, part: value, **behind})), told)


class Attributes(unittest.TestCase):
    def test_tuples_and_lists(self):
        lists = {name: list(value) if isinstance(value, tuple) else value for name, value in whole().items()}
        for told in (project(), Project(**lists), Project(*[lists[name] for name in PARTS[:5]],
                                                          **{name: lists[name] for name in LEFT_OUT})):
            for name, value in whole().items():
                self.assertEqual(getattr(told, name), value)
                self.assertIs(type(getattr(told, name)), int if name in ("horizon", "overhead") else tuple)
            self.assertEqual(sorted(vars(told)), sorted(PARTS))

    def test_what_was_left_out(self):
        told = Project(["a"], 1, [], [], [((0, (), (), 0),)])
        rows = {name: 0 if name == "overhead" else () for name in LEFT_OUT}
        rows.update(names=("a",), horizon=1, machines=(), stocks=(), modes=(((0, (), (), 0),),))
        self.assertEqual(vars(told), rows)
        self.assertTrue(all(type(getattr(told, name)) is tuple for name in PARTS if name not in ("horizon", "overhead")))

    def test_an_empty_list_is_as_nothing(self):
        empty = {name: [] for name in LEFT_OUT if name != "overhead"}
        self.assertEqual(plain(2, **empty), plain(2))
        self.assertEqual(plain(2, **empty).families, ())
        self.assertEqual(plain(2, **empty).late, ())

    def test_lists_that_are_changed_later_change_nothing(self):
        lists = {name: list(value) if isinstance(value, tuple) else value for name, value in whole().items()}
        told = Project(**lists)
        for value in lists.values():
            if isinstance(value, list):
                value.clear()
        self.assertEqual(told, project())

    def test_parameters(self):
        signature = inspect.signature(Project)
        self.assertEqual(tuple(signature.parameters), PARTS)
        for name in PARTS:
            parameter = signature.parameters[name]
            if name in LEFT_OUT:
                self.assertEqual(parameter.kind, inspect.Parameter.KEYWORD_ONLY)
                self.assertEqual(parameter.default, 0 if name == "overhead" else ())
            else:
                self.assertEqual(parameter.kind, inspect.Parameter.POSITIONAL_OR_KEYWORD)
                self.assertIs(parameter.default, parameter.empty)
        with self.assertRaises(TypeError):
            Project(("a",), 1, (), (), (((0, (), (), 0),),), ())
        self.assertEqual(Project.__module__, projects.__name__)

    def test_equal_if_all_attributes_are(self):
        one = project()
        self.assertTrue(one == project())
        self.assertFalse(one != project())
        for name, value in other_parts().items():
            other = project(**{name: value})
            self.assertFalse(one == other, name)
            self.assertTrue(one != other, name)
            self.assertFalse(other == one, name)
            self.assertTrue(other == project(**{name: value}), name)
        # calendars that are equal, not only the same
        again = project(calendars=(None, Calendar([True, True, False], changes=[(4, False)]), Calendar((True,))))
        self.assertTrue(one == again)
        self.assertFalse(one == project(calendars=(None, Calendar((True, True, False)), Calendar((True,)))))
        # families that are left out are not the same as those that are told to be 0
        self.assertFalse(plain(2) == plain(2, families=(0, 0)))

    def test_equal_to_nothing_of_another_kind(self):
        one = project()
        for value in ODD + [whole(), tuple(whole().values()), one.names, vars(one)]:
            self.assertIs(one == value, False)
            self.assertIs(one != value, True)
            self.assertIs(value == one, False)


class Levels(Parts):
    def test_names(self):
        for value in no_rows() + ["abc", (), [], tuple("abcdef"), list("abcdefgh"), {"a": 1}, (None,) * 6]:
            self.refused("names", -1, value)
        for value in ODD + ["", "A", "1a", "-a", "a b", "abcdefghijklm", "a\n", ("a",)]:
            self.refused("names", 0, (value, "b"))
            self.refused("names", 2, ["a", "b", value, "a"])
        self.refused("names", 1, ("a", "a", "b"))
        self.refused("names", 3, ("a", "b", "c", "b", ""))
        for many in range(1, 6):
            self.assertEqual(plain(many).names, tuple("abcde"[:many]))

    def test_horizon(self):
        for value in ODD + [0, 61, -1, "1", (1,), [1]]:
            self.refused("horizon", -1, value)
        for value in (1, 2, 59, 60):
            self.assertEqual(project(horizon=value).horizon, value)

    def test_machines(self):
        for value in no_rows() + ["", (1,) * 4, [1] * 4, (None,) * 4, {1: 1}]:
            self.refused("machines", -1, value)
        for value in ODD + [-1, 1001, "1", (1,), [1], (1, (1, 1, 1))]:
            self.refused("machines", 0, (value, value))
            self.refused("machines", 2, [0, 1000, value])
        self.assertEqual(Project(("a",), 5, [0, 1000, 1], (), (((1, (0, 1000, 1), (), 0),),)).machines, (0, 1000, 1))

    def test_stocks(self):
        for value in no_rows() + ["", (1,) * 3, [1] * 3, (None,) * 3, {1: 1}]:
            self.refused("stocks", -1, value)
        for value in ODD + [-1, 1001, "1", (1,), [1]]:
            self.refused("stocks", 0, (value, value))
            self.refused("stocks", 1, [0, value])
        told = Project(("a",), 5, (), [0, 1000], (((1, (), (1000, 0), 0),),))
        self.assertEqual(told.stocks, (0, 1000))

    def test_overhead(self):
        for value in ODD + [-1, 1001, "1", (1,), [1]]:
            self.refused("overhead", -1, value)
        for value in (0, 1, 1000):
            self.assertEqual(project(overhead=value).overhead, value)


class Modes(Parts):
    def refused_modes(self, item):
        right = whole()["modes"]
        self.refused("modes", 0, (item,) + right[1:])
        self.refused("modes", 1, [right[0], item, None])
        self.refused("modes", 2, right[:2] + (item,))

    def refused_mode(self, mode):
        right = whole()["modes"]
        self.refused_modes((mode,))
        self.refused_modes((right[1][0], mode))
        self.refused_modes((mode, right[1][0], right[1][0]))

    def test_not_one_item_for_each_activity(self):
        right = whole()["modes"]
        for value in no_rows() + ["abc", (), [], right[:2], right + right[:1], [None] * 4, {0: right[0]}]:
            self.refused("modes", -1, value)

    def test_not_one_to_three_modes(self):
        mode = whole()["modes"][1][0]
        for item in ODD + [(), [], (mode,) * 4, [mode], "abc", mode, {mode: 1}]:
            self.refused_modes(item)
        self.assertEqual(project(modes=((mode,) * 3,) * 3).modes, ((mode,) * 3,) * 3)

    def test_no_mode(self):
        for mode in ODD + [(), (1, (0, 0), (0,)), (1, (0, 0), (0,), 0, 0), [1, (0, 0), (0,), 0], "abcd", {1: 1}]:
            self.refused_mode(mode)

    def test_work_and_cost(self):
        for value in ODD + [-1, "1", (1,), [1]]:
            self.refused_mode((value, (0, 0), (0,), 0))
            self.refused_mode((0, (0, 0), (0,), value))
        self.refused_mode((61, (0, 0), (0,), 0))
        self.refused_mode((0, (0, 0), (0,), 1001))
        for work, cost in ((0, 0), (60, 1000)):
            told = (((work, (3, 5), (1000,), cost),),) * 3
            self.assertEqual(project(modes=told).modes, told)

    def test_demands(self):
        for demands in ODD + [(), (0,), (0, 0, 0), [0, 0], "00", {0: 0, 1: 1}, (4, 0), (0, 6), (-1, 0), (0, True), (None, 0),
                              (0, (0,)), ((0, 0), 0)]:
            self.refused_mode((0, demands, (0,), 0))
        # just the capacity is not too much
        self.assertEqual(project(modes=(((0, (3, 5), (0,), 0),),) * 3).modes[2][0][1], (3, 5))

    def test_uses(self):
        for uses in ODD + [(), (0, 0), [0], "0", {0: 0}, (1001,), (-1,), (True,), (None,), ((0,),)]:
            self.refused_mode((0, (0, 0), uses, 0))
        # more than there is may be used in a mode
        self.assertEqual(project(modes=(((0, (0, 0), (1000,), 0),),) * 3).modes[2][0][2], (1000,))


class ForEach(Parts):
    def maybe(self, part, right, wrong):
        """A part that is nothing or has an item for each activity; wrong are items that are none."""
        for value in no_rows() + [(right,) * 2, [right] * 4, (None, None), "abc", {0: right, 1: right, 2: right}]:
            self.refused(part, -1, value)
        for item in wrong:
            self.refused(part, 0, (item,) * 3)
            self.refused(part, 1, [right, item, item])
            self.refused(part, 2, (right, right, item))
        self.assertEqual(getattr(project(**{part: [right] * 3}), part), (right,) * 3)

    def test_calendars(self):
        wrong = [value for value in ODD if value is not None and not isinstance(value, Calendar)]
        self.maybe("calendars", WEEK, wrong + [(True,), Calendar, (WEEK,), [WEEK]])
        self.assertEqual(project(calendars=[None] * 3).calendars, (None,) * 3)

    def test_windows(self):
        wrong = ODD + [(), (1,), (1, 2, 3), [1, 2], "12", {1: 1, 2: 2}]
        for value in ODD + [-1, 61, "1", (1,), [1]]:
            wrong.append((value, 5))
            if value is not None:
                wrong.append((5, value))
        self.maybe("windows", (60, 0), wrong)
        told = ((0, None), (60, 60), (60, None))
        self.assertEqual(project(windows=told).windows, told)

    def test_families(self):
        singles = (((0, 1), ((0,) * 4,) * 4),)
        self.assertEqual(project(families=[3, 0, 0], singles=singles).families, (3, 0, 0))
        right = {"singles": ()}
        for value in no_rows() + [(0,), [0] * 4, "000", {0: 0, 1: 1, 2: 2}]:
            self.refused("families", -1, value, **right)
        for value in ODD + [-1, 4, "1", (1,), [1]]:
            self.refused("families", 0, (value,) * 3, **right)
            self.refused("families", 2, [3, 0, value], **right)

    def test_late(self):
        wrong = [value for value in ODD if value is not None] + [(), (1,), (1, 2, 3), [1, 2], "12", {1: 1}, (61, 0), (0, 1001)]
        for value in ODD + [-1, "1", (1,), [1]]:
            wrong += [(value, 5), (5, value)]
        self.maybe("late", (60, 1000), wrong)
        self.assertEqual(project(late=[None, (0, 0), None]).late, (None, (0, 0), None))


class Lags(Parts):
    def test_no_list_of_up_to_twelve(self):
        lag = ("start", 0, "end", 1, 0, 5)
        for value in no_rows() + ["", (lag,) * 13, [lag] * 13, (None,) * 13, {lag: 1}]:
            self.refused("lags", -1, value)
        self.assertEqual(project(lags=[lag] * 12).lags, (lag,) * 12)

    def test_lags_of_each_kind(self):
        for one in ("start", "end"):
            for other in ("start", "end"):
                for a, b in ((0, 1), (2, 0), (1, 1)):
                    for low, high in ((-60, -60), (60, 60), (0, 0), (-60, None), (60, None), (-3, 60), (0, None)):
                        told = ((one, a, other, b, low, high),)
                        self.assertEqual(project(lags=told).lags, told)

    def test_the_first_item_that_is_none(self):
        right = ("start", 0, "end", 1, 0, 5)
        wrong = ODD + [(), right[:5], right + (0,), list(right), "abcdef", {1: 1}]
        for at in range(6):
            for value in ODD + ["begin", "Start", "", (1,), [1], "0", -61, 61, 3 if at in (1, 3) else "x", -1 if at < 4 else 99]:
                if at == 5 and value is None:
                    continue
                if at == 4 and value == -1:
                    continue
                wrong.append(right[:at] + (value,) + right[at + 1:])
        wrong += [("start", 0, "end", 1, 6, 5), ("start", 0, "end", 1, 0, -1), ("end", 0, "end", 0, -60, -61)]
        for item in wrong:
            self.refused("lags", 0, (item,))
            self.refused("lags", 1, [right, item, None])


class Singles(Parts):
    TABLE = ((0, 1, 2), (3, 0, 4), (5, 60, 0))

    def test_no_list_of_up_to_two(self):
        right = whole()["singles"]
        for value in no_rows() + ["", right + right[:1], [None] * 3, {right[0]: 1}]:
            self.refused("singles", -1, value)

    def test_the_first_item_that_is_none(self):
        right = whole()["singles"]
        for item in ODD + [(), ((0, 1),), right[0] + (0,), list(right[0]), "ab", {1: 1, 2: 2}]:
            self.refused_item(item)

    def refused_item(self, item):
        right = whole()["singles"]
        self.refused("singles", 0, (item,))
        self.refused("singles", 0, [item, item])
        self.refused("singles", 1, [right[0], item])

    def test_members(self):
        for members in ODD + [(), (0,), (1, 0), (0, 0), [0, 1], (0, 3), (-1, 0), (0, True), (False, 1), "01", (0, 1, 1)]:
            self.refused_item((members, self.TABLE))
        for members in ((0, 1), (0, 2), (1, 2), (0, 1, 2)):
            self.assertEqual(project(singles=[(members, self.TABLE)]).singles, ((members, self.TABLE),))

    def test_tables(self):
        wrong = ODD + [(), self.TABLE[:2], self.TABLE + self.TABLE[:1], list(self.TABLE), "abc"]
        for row in ODD + [(), (0, 0), (0, 0, 0, 0), [0, 0, 0], "000"]:
            wrong += [(row,) + self.TABLE[1:], self.TABLE[:2] + (row,)]
        for value in ODD + [-1, 61, "1", (1,)]:
            wrong += [((value, 0, 0),) + self.TABLE[1:], self.TABLE[:2] + ((0, 0, value),)]
        for table in wrong:
            self.refused_item(((0, 1), table))

    def test_as_many_families_as_the_greatest_one_tells(self):
        def told(families, many):
            table = ((0,) * many,) * many
            return raised(lambda: project(families=families, singles=(((0, 1), table),)))

        wrong = (NoProject, {"part": "singles", "index": 0})
        for families, right in (((), 1), ((0, 0, 0), 1), ((0, 0, 1), 2), ((2, 0, 0), 3), ((3, 3, 3), 4), ([0, 3, 1], 4)):
            for many in range(6):
                self.assertEqual(told(families, many), None if many == right else wrong, (families, many))

    def test_two_members_in_common(self):
        for one, other in (((0, 1), (0, 1)), ((0, 1, 2), (1, 2)), ((0, 2), (0, 1, 2)), ((0, 1, 2), (0, 1, 2))):
            self.refused("singles", 1, [(one, self.TABLE), (other, self.TABLE)])
        for one, other in (((0, 1), (1, 2)), ((0, 2), (1, 2)), ((1, 2), (0, 1))):
            told = ((one, self.TABLE), (other, self.TABLE))
            self.assertEqual(project(singles=told).singles, told)
        table = ((0,),)
        told = (((0, 1, 2), table), ((2, 3, 4), table))
        self.assertEqual(plain(5, singles=told).singles, told)
        # what is no single is told ahead of what two have in common
        self.refused("singles", 0, [((0,), self.TABLE), ((0, 1), self.TABLE)])
        self.refused("singles", 1, [((0, 1), self.TABLE), ((0, 1), None)])


class Crew(Parts):
    def test_crew(self):
        for value in no_rows() + ["", (("x",),) * 9, [None] * 9, {("x",): 1}]:
            self.refused("crew", -1, value)
        for item in ODD + ["x", ["x"], ("x", "x"), ("X",), ("",), (5,), ("a", "b", "c", "d", "e", "f"), ({},)]:
            self.refused("crew", 1, (("x",), item, item))
        self.refused("crew", 2, (("a", "b"), ("c", "d"), ("e", "f"), None))
        told = (("x", "y", "p", "q", "r"),) * 8
        self.assertEqual(project(crew=list(told)).crew, told)

    def test_asks(self):
        for value in no_rows() + ["", ((),) * 2, [()] * 4, (None,) * 2, {1: 1}]:
            self.refused("asks", -1, value)
        wrong = ODD + [
            [("x", 1)], ("x", 1), (("x", 0),), (("x", 9),), (("x", True),), (("X", 1),), (("x", 1), ("x", 1)), (["x", 1],),
            (("x",),), (("x", 1, 1),), (("x", 1), ("y", 1), ("p", 1), ("q", 1)),
            # the whole crew cannot serve these alone
            (("x", 3),), (("y", 2),), (("z", 1),), (("x", 2), ("y", 1)),
        ]
        for item in wrong:
            self.refused("asks", 1, ((("x", 1),), item, item))
        self.assertEqual(project(asks=[(), (), (("x", 2),)]).asks, ((), (), (("x", 2),)))
        self.refused("asks", 0, ((("x", 1),), (), ()), crew=())

    def test_more_than_five_skills(self):
        crew = (("p", "q", "r", "s"), ("t",))
        self.refused("asks", 1, ((("t", 1),), (("u", 1),), ()), crew=crew)


class Sessions(Parts):
    def test_every_part_is_checked(self):
        for name in PARTS:
            index = 1 if isinstance(whole()[name], tuple) else -1
            value = whole()[name]
            if index == 1:
                self.refused(name, 1, value[:1] + (NoProject,) + value[2:])
            self.refused(name, -1, NoProject)
            self.refused(name, -1, None)

    def test_an_endless_list(self):
        for name in PARTS:
            told = raised(lambda: project(**{name: looped()}))
            self.assertEqual(told[0], NoProject)
            self.assertEqual(told[1]["part"], name)


class Choices(unittest.TestCase):
    def test_shape_of(self):
        one = project()
        told = shape_of(one, (1, 0, 2))
        self.assertEqual(told, Shape(
            ("a", "b", "c"), machines=((3, (0, 3, 2)), (5, (5, 5, 2))), crew=one.crew, asks=one.asks,
        ))
        self.assertEqual(told.before, ())
        self.assertEqual(shape_of(one, (0, 0, 0)).machines, ((3, (1, 3, 0)), (5, (0, 5, 0))))
        self.assertEqual(allowed_sets(shape_of(plain(3), (0, 0, 0)))[-1], (0, 1, 2))
        self.assertEqual(shape_of(plain(5), (0,) * 5), Shape(tuple("abcde")))
        self.assertEqual(shape_of(project=one, choice=(1, 0, 2)), told)

    def test_all_choices(self):
        one = project()
        for first in range(2):
            for third in range(3):
                shape = shape_of(one, (first, 0, third))
                for at in range(2):
                    rows = (one.modes[0][first], one.modes[1][0], one.modes[2][third])
                    self.assertEqual(shape.machines[at], (one.machines[at], tuple(mode[1][at] for mode in rows)))

    def test_no_choice(self):
        one = project()
        for value in no_rows() + [(0, 0), (0,) * 4, [0, 0, 0], "000", (), [], {0: 0}, (None,) * 4, looped()]:
            self.assertEqual(raised(lambda: shape_of(one, value)), (NoChoice, {"index": -1}))
        for value in ODD + [-1, "0", (0,), [0]]:
            self.assertEqual(raised(lambda: shape_of(one, (value, 0, 0))), (NoChoice, {"index": 0}))
            self.assertEqual(raised(lambda: shape_of(one, (1, 0, value))), (NoChoice, {"index": 2}))
        # an index that is one for another activity
        self.assertEqual(raised(lambda: shape_of(one, (2, 1, 3))), (NoChoice, {"index": 0}))
        self.assertEqual(raised(lambda: shape_of(one, (1, 1, 3))), (NoChoice, {"index": 1}))
        self.assertEqual(raised(lambda: shape_of(one, (1, 0, 3))), (NoChoice, {"index": 2}))

    def test_no_project(self):
        for value in odd_values() + [(), [], "abc", Project]:
            if isinstance(value, Project):
                continue
            for choice in ((0, 0, 0), None):
                told = (NoProject, {"part": "project", "index": -1})
                self.assertEqual(raised(lambda: shape_of(value, choice)), told)

    def test_nothing_is_changed(self):
        one = project()
        kept = vars(project())
        self.assertEqual(shape_of(one, (1, 0, 2)), shape_of(one, (1, 0, 2)))
        self.assertEqual(vars(one), kept)


if __name__ == "__main__":
    unittest.main()
