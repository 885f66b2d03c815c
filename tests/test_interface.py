"""[2], [3], "The interface": names, arguments, what arguments and results have to do with one another."""

import copy
import importlib
import inspect
import unittest

from crewlags.calendars import Calendar
from crewlags.desks import Desk
from crewlags.errors import NoProject, NoShape
from crewlags.projects import Project
from crewlags.shapes import Shape
from tests.support import DIGGING, FOUR, PLAN, THREE, WEEK, fields, odd_values

NAMES = {
    "shapes": {
        "excess": ("shape", "some"), "allowed_sets": ("shape",), "greatest_allowed": ("shape",),
        "least_forbidden": ("shape",),
    },
    "orders": {
        "is_order": ("shape", "value"), "closed": ("shape", "pairs"), "unresolved": ("shape", "order"),
        "graph_of": ("shape", "order"),
    },
    "graphs": {
        "orient": ("shape", "graph"), "graph_fault": ("shape", "graph"), "least_graphs": ("shape",),
        "sure_pairs": ("shape",), "idle_pairs": ("shape",), "least_within": ("shape", "graph"), "single": ("shape",),
    },
    "schedules": {
        "overlapping": ("durations", "starts"), "length_of": ("durations", "starts"),
        "schedule_graph": ("durations", "starts"), "schedule_faults": ("shape", "durations", "starts"),
        "earliest": ("shape", "order", "durations"), "schedule_order": ("shape", "durations", "starts"),
    },
    "lengths": {
        "time_of": ("shape", "graph", "durations"), "least_time": ("shape", "durations"),
        "best_graphs": ("shape", "durations"), "longer_at": ("shape", "one", "other"),
        "growth": ("shape", "durations", "a"), "slack": ("shape", "durations", "a"),
        "critical": ("shape", "durations"),
    },
    "bounds": {
        "too_heavy": ("shape", "weights"), "heaviest": ("shape", "weights"), "best_bound": ("shape", "durations"),
        "check_bound": ("shape", "durations", "bound"),
    },
    "steady": {
        "height": ("shape", "graph", "some"), "worst": ("shape", "graph"), "ratio": ("shape", "one", "other"),
        "steadiest": ("shape",),
    },
    "mixes": {
        "mean_time": ("shape", "mix", "durations"), "worst_mix": ("shape", "mix"), "against": ("shape", "sets"),
        "blind": ("shape",), "check_blind": ("shape", "answer"),
    },
    "beside": {
        "longer_for": ("shape", "other"), "parted": ("shape", "other"), "idle": ("shape",), "enough": ("shape",),
        "capacities": ("shape",),
    },
    "boxes": {
        "least_and_greatest": ("shape", "box"), "regret": ("shape", "graph", "box"), "calmest": ("shape", "box"),
        "always_best": ("shape", "box"), "on_greatest": ("shape", "graph", "box"),
    },
    "calendars": {
        "is_work": ("calendar", "slot"), "next_work": ("calendar", "slot"),
        "work_between": ("calendar", "start", "end"), "end_of": ("calendar", "start", "work"),
        "latest_start": ("calendar", "end", "work"), "first_difference": ("calendar", "other"),
        "turn_of": ("calendar",), "moved": ("calendar", "many"),
    },
    "projects": {"shape_of": ("project", "choice")},
    "times": {
        "possible_starts": ("project", "choice", "a", "most"), "times": ("project", "choice", "ahead", "most"),
        "derivation": ("project", "choice", "ahead", "most"),
        "check_derivation": ("project", "choice", "steps", "ahead", "most"),
    },
    "plans": {
        "plan_ends": ("project", "choice", "starts"), "plan_faults": ("project", "choice", "starts"),
        "account": ("project", "choice", "starts"), "loads": ("project", "choice", "starts", "machine"),
    },
    "rotas": {"rota": ("project", "choice", "starts"), "check_rota": ("project", "choice", "starts", "shifts")},
    "front": {
        "trade_offs": ("project",), "cost_curve": ("project",), "shortest": ("project", "cost"),
        "cheapest": ("project", "most"),
    },
    "counts": {"count_plans": ("project", "choice", "most")},
    "papers": {
        "flaw": ("project", "most", "paper"), "paper_of": ("project", "most"), "fewest_leaves": ("project", "most"),
    },
    "repairs": {
        "good_row": ("project", "choice", "fixed"), "must_move": ("project", "choice", "starts"),
        "fewest_moved": ("project", "choice", "starts"), "least_shift": ("project", "choice", "starts"),
        "room": ("project", "choice", "starts"), "spans": ("project", "choice"),
    },
    "texts": {"shape_text": ("shape",), "read_shape": ("text",)},
}

# each method of a desk with its parameters
DESK = {
    "shape_now": (), "add_pair": ("one", "other"), "drop_pair": ("index",), "put_machine": ("index", "capacity", "demands"),
    "hire": ("skills",), "dismiss": ("index",), "put_asks": ("asks",), "undo": (), "redo": (), "moved_sets": (),
}

# each class that takes parts, with those ahead of the star and those behind it
CLASSES = (
    (Shape, ("names",), ("before", "machines", "crew", "asks")),
    (Calendar, ("cycle",), ("changes",)),
    (Project, ("names", "horizon", "machines", "stocks", "modes"),
     ("calendars", "windows", "families", "lags", "singles", "crew", "asks", "overhead", "late")),
)

# what stands behind a star, and what it is if it is left out
LEFT_OUT = {"ahead": (), "most": None, "cost": None, "fixed": ()}

# functions that do not let it be left out
ALWAYS_TOLD = ("flaw", "paper_of", "fewest_leaves")

# for the shape FOUR, the calendar WEEK and the project PLAN: arguments that are right, lists where lists may be
GIVEN = {
    "some": (1, 2), "value": [(0, 1), (2, 1), (2, 3)], "pairs": [(1, 2), (2, 3), (1, 2)],
    "order": [(2, 3), (0, 1), (2, 1)], "graph": [(1, 2), (0, 1), (2, 3)], "one": [(0, 2), (0, 1)], "other": [(0, 1)],
    "durations": (3, (1, 2), 0, 4), "starts": (0, 3, 3, (7, 2)), "weights": ((1, 2), 0, 0, (2, 3)), "a": 2,
    "bound": (4, (0, 0, 0, 1), [((0, 3), 3), ((1, 3), 1)]), "mix": [([(1, 2), (0, 1), (2, 3)], (1, 2)), ([], (1, 2))],
    "sets": [((0, 2), (1, 3)), ((3,), (2, 3))], "box": ((0, 1), (1, 1), ((1, 2), 2), (0, 0)), "slot": 5, "start": 2,
    "end": 9, "work": 3, "many": 4, "choice": (0, 0), "ahead": [(0, 1)], "most": 6, "steps": [(1, 2, ("lag", 0))],
    "machine": 0, "shifts": [(2, 5, 1, 1, "lift"), (0, 2, 0, 0, "dig")], "cost": 70, "fixed": [(1, 1)],
    "paper": ("modes", 0, [("modes", 1, [("first", (0, 1), [("times", [(1, 2, ("ahead", 0))]), ("times", [(0, 3, ("ahead", 0))])])])]),
    "text": "activity a\nactivity b\nbefore a b\n",
    "answer": (1, [([(0, 1), (1, 2), (2, 3)], 1)], [((0, 3), 1)]),
}

# where a parameter of this name is something else
OTHERS = {
    "check_bound": {"durations": (3, 0, 0, 4)}, "schedule_order": {"starts": (0, 3, 3, 3)},
    "longer_for": {"other": FOUR}, "parted": {"other": FOUR}, "possible_starts": {"a": 1},
    "first_difference": {"other": Calendar((True, True, False, True))},
    "plan_ends": {"starts": (0, 1)}, "plan_faults": {"project": DIGGING, "starts": (0, 1)},
    "account": {"project": DIGGING, "starts": (0, 1)}, "loads": {"project": DIGGING, "starts": (0, 1)},
    "rota": {"project": DIGGING, "starts": (0, 2)}, "check_rota": {"project": DIGGING, "starts": (0, 2)},
    "trade_offs": {"project": DIGGING}, "cost_curve": {"project": DIGGING}, "shortest": {"project": DIGGING},
    "cheapest": {"project": DIGGING}, "count_plans": {"project": DIGGING},
    "flaw": {"project": DIGGING, "most": 4}, "paper_of": {"project": DIGGING, "most": 4},
    "fewest_leaves": {"project": DIGGING, "most": 4}, "good_row": {"project": DIGGING},
    "must_move": {"project": DIGGING, "starts": (0, 1)}, "fewest_moved": {"project": DIGGING, "starts": (0, 1)},
    "least_shift": {"project": DIGGING, "starts": (0, 1)}, "room": {"project": DIGGING, "starts": (1, 3)},
    "spans": {"project": DIGGING},
}

KEPT = {"shape": FOUR, "calendar": WEEK, "project": PLAN}


def all_functions():
    """Each function of the interface with its name and its parameters."""
    return [
        (getattr(importlib.import_module("crewlags." + module), name), name, parameters)
        for module, rows in NAMES.items() for name, parameters in rows.items()
    ]


def given(name, parameters):
    """Right arguments by name, all of them new."""
    told = {one: copy.deepcopy(GIVEN[one]) for one in parameters if one in GIVEN}
    told.update({one: value for one, value in KEPT.items() if one in parameters})
    told.update(copy.deepcopy(OTHERS.get(name, {})))
    return told


class Interface(unittest.TestCase):
    def test_parameters_are_named_as_told(self):
        for function, name, parameters in all_functions():
            signature = inspect.signature(function)
            self.assertEqual(tuple(signature.parameters), parameters, name)
            for parameter in signature.parameters.values():
                if parameter.name in LEFT_OUT and name not in ALWAYS_TOLD:
                    self.assertEqual(parameter.kind, parameter.KEYWORD_ONLY)
                    self.assertEqual(parameter.default, LEFT_OUT[parameter.name])
                    continue
                self.assertEqual(parameter.kind, parameter.POSITIONAL_OR_KEYWORD)
                self.assertIs(parameter.default, parameter.empty)

    def test_each_function_is_defined_in_its_file(self):
        for module, rows in NAMES.items():
            for name in rows:
                function = getattr(importlib.import_module("crewlags." + module), name)
                self.assertTrue(inspect.isfunction(function))
                self.assertEqual(function.__module__, "crewlags." + module)
        self.assertEqual(Shape.__module__, "crewlags.shapes")
        self.assertEqual(Calendar.__module__, "crewlags.calendars")
        self.assertEqual(Project.__module__, "crewlags.projects")
        self.assertEqual(Desk.__module__, "crewlags.desks")

    def test_the_methods_of_a_desk(self):
        self.assertEqual(tuple(inspect.signature(Desk).parameters), ("shape",))
        for name, parameters in DESK.items():
            self.assertIn(name, vars(Desk))
            signature = inspect.signature(getattr(Desk(FOUR), name))
            self.assertEqual(tuple(signature.parameters), parameters)
            for parameter in signature.parameters.values():
                self.assertEqual(parameter.kind, parameter.POSITIONAL_OR_KEYWORD)
                self.assertIs(parameter.default, parameter.empty)

    def test_the_parts_of_each_class(self):
        for kind, first, rest in CLASSES:
            signature = inspect.signature(kind)
            self.assertEqual(tuple(signature.parameters), first + rest)
            for name in first + rest:
                parameter = signature.parameters[name]
                self.assertEqual(parameter.kind == parameter.KEYWORD_ONLY, name in rest)
                self.assertEqual(parameter.default is parameter.empty, name in first)
            self.assertIn("__eq__", vars(kind))

    def test_every_line_of_the_interface(self):
        count = sum(len(rows) for rows in NAMES.values())
        self.assertEqual(count, 86)

    def test_by_name_and_by_position_is_the_same(self):
        for function, name, parameters in all_functions():
            told = given(name, parameters)
            named = {one: told[one] for one in parameters if one in LEFT_OUT and name not in ALWAYS_TOLD}
            placed = [told[one] for one in parameters if one not in named]
            self.assertEqual(function(**told), function(*placed, **named), name)

    def test_the_parts_of_a_shape_behind_the_star_are_told_by_name_alone(self):
        signature = inspect.signature(Shape)
        self.assertEqual(tuple(signature.parameters), ("names", "before", "machines", "crew", "asks"))
        for name in ("before", "machines", "crew", "asks"):
            self.assertEqual(signature.parameters[name].kind, inspect.Parameter.KEYWORD_ONLY)
            self.assertEqual(signature.parameters[name].default, ())
        self.assertEqual(Shape(names=("a",)), Shape(("a",)))
        with self.assertRaises(TypeError):
            Shape(("a",), ())

    def test_no_shape_comes_first_for_each_function(self):
        for function, name, parameters in all_functions():
            if parameters[0] != "shape":
                continue
            for value in odd_values() + [(), [], "abc"]:
                if isinstance(value, Shape):
                    continue
                for others in (given(name, parameters), {one: object() for one in parameters}):
                    others["shape"] = value
                    with self.assertRaises(NoShape) as caught:
                        function(**others)
                    self.assertEqual(fields(caught.exception), {"part": "shape", "index": -1})

    def test_no_project_comes_first_for_each_function(self):
        for function, name, parameters in all_functions():
            if parameters[0] != "project":
                continue
            for value in odd_values() + [(), [], "abc"]:
                if isinstance(value, Project):
                    continue
                for others in (given(name, parameters), {one: object() for one in parameters}):
                    others["project"] = value
                    with self.assertRaises(NoProject) as caught:
                        function(**others)
                    self.assertEqual(fields(caught.exception), {"part": "project", "index": -1})

    def test_arguments_are_not_changed(self):
        for function, name, parameters in all_functions():
            told = given(name, parameters)
            kept = copy.deepcopy(told)
            before = [copy.deepcopy(vars(value)) for value in KEPT.values()]
            function(**told)
            self.assertEqual(told, kept, name)
            self.assertEqual([vars(value) for value in KEPT.values()], before, name)

    def test_equal_arguments_give_equal_results(self):
        for function, name, parameters in all_functions():
            self.assertEqual(function(**given(name, parameters)), function(**given(name, parameters)), name)

    def test_a_told_list_that_is_changed_changes_nothing(self):
        for function, name, parameters in all_functions():
            told = given(name, parameters)
            first = function(**told)
            kept = copy.deepcopy(first)
            spoil(first)
            self.assertEqual(function(**told), kept, name)

    def test_a_list_that_was_handed_in_is_not_the_one_that_is_told(self):
        for function, name, parameters in all_functions():
            told = given(name, parameters)
            result = function(**told)
            for value in told.values():
                if isinstance(value, list):
                    self.assertIsNot(result, value, name)

    def test_a_list_that_is_handed_in_and_changed_later_changes_nothing(self):
        names, before, machines, crew, asks = ["a", "b"], [(0, 1)], [(2, (1, 1))], [("x",)], [(("x", 1),), ()]
        shape = Shape(names, before=before, machines=machines, crew=crew, asks=asks)
        kept = Shape(tuple(names), before=tuple(before), machines=tuple(machines), crew=tuple(crew), asks=tuple(asks))
        for rows in (names, before, machines, crew, asks):
            rows.clear()
        self.assertEqual(shape, kept)
        self.assertEqual(shape.names, ("a", "b"))

    def test_objects_are_equal_to_nothing_of_another_kind(self):
        for one in (THREE, WEEK, PLAN):
            for value in odd_values() + [vars(one), tuple(vars(one).values()), "shape", (), THREE.names]:
                if value is not one:
                    self.assertIs(one == value, False)
                    self.assertIs(one != value, True)
                    self.assertIs(value == one, False)


def spoil(value):
    """Changes each list in a value."""
    if isinstance(value, (list, tuple)):
        for item in value:
            spoil(item)
    if isinstance(value, list):
        value.append("spoilt")
        value.reverse()


if __name__ == "__main__":
    unittest.main()
