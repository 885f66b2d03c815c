"""The examples of the document, word for word."""

import unittest

from crewlags import (
    beside, boxes, calendars, counts, errors, front, mixes, papers, plans, projects, repairs, rotas, shapes, steady, texts,
    times,
)

BLOCKS = '''
>>> from crewlags.shapes import Shape, allowed_sets, excess, least_forbidden
>>> s = Shape(("a", "b", "c", "d"), before=((0, 1),), machines=((2, (1, 1, 1, 1)),), crew=(("weld",), ("weld", "lift")), asks=((), (("lift", 1),), (("weld", 2),), (("weld", 1),)))
>>> [allowed_sets(s), least_forbidden(s), excess(s, (1, 2))]
[[(0,), (1,), (2,), (3,), (0, 2), (0, 3), (1, 3)], [(1, 2), (2, 3)], ('crew', ('lift', 'weld'))]

>>> from crewlags.shapes import Shape
>>> Shape(("a", "b"), before=((0, 1), (1, 0)))
raises NoShape('before', 1)

>>> from crewlags.bounds import best_bound
>>> from crewlags.shapes import Shape
>>> best_bound(Shape(("a", "b", "c"), machines=((2, (1, 1, 1)),)), (1, 1, 1))[:2]
((3, 2), ((1, 2), (1, 2), (1, 2)))

>>> from crewlags.graphs import least_graphs, single, sure_pairs
>>> from crewlags.shapes import Shape
>>> s = Shape(('a', 'b', 'c'), machines=((2, (1, 1, 1)),))
>>> (least_graphs(s), sure_pairs(s), single(s))
([[(0, 1)], [(0, 2)], [(1, 2)]], [], ('set', (0, 1, 2)))

>>> from crewlags.graphs import orient, single
>>> from crewlags.orders import closed
>>> from crewlags.shapes import Shape
>>> s = Shape(('a', 'b', 'c', 'd'), before=((0, 1),), machines=((2, (1, 1, 1, 1)),), crew=(('weld',), ('weld', 'lift')), asks=((), (('lift', 1),), (('weld', 2),), (('weld', 1),)))
>>> (single(s), orient(s, [(0, 1), (1, 2), (2, 3)]), closed(s, [(1, 2), (2, 0)]))
(('graph', [(0, 1), (1, 2), (2, 3)]), [(0, 1), (2, 1), (2, 3)], ('ring', (0, 1, 2)))

>>> from crewlags.projects import Project
>>> from crewlags.repairs import fewest_moved, good_row, least_shift, must_move, room, spans
>>> p = Project(('a', 'b'), 20, (3,), (), (((2, (2,), (), 5),), ((3, (2,), (), 1),)), overhead=10, late=(None, (4, 7)), crew=(('dig',), ('dig', 'lift')), asks=((('dig', 1),), (('lift', 1),)))
>>> (least_shift(p, (0, 0), (0, 1)), room(p, (0, 0), (1, 3)), spans(p, (0, 0)))
((1, (0, 2)), [(1, 4), (3, 3)], (5, [(0, 3), (0, 2)]))

>>> from crewlags.schedules import overlapping
>>> overlapping((3, 0, 2), (0, 1, 3))
[(0, 1)]

>>> from crewlags.lengths import best_graphs, growth, least_time, slack
>>> from crewlags.shapes import Shape
>>> shape = Shape(("a", "b", "c"), machines=((2, (1, 1, 1)),))
>>> [least_time(shape, (4, 3, 2)), growth(shape, (4, 3, 2), 0), slack(shape, (4, 3, 2), 0), best_graphs(shape, (4, 3, 2))]
[(5, (0, 0, 3), [(1, 2)], (1, 2)), [(0, 3, 0), (1, 3, 1), (3, 5, 0), (5, 5, 1)], 1, [[(1, 2)]]]

>>> from crewlags.lengths import critical, longer_at
>>> from crewlags.shapes import Shape
>>> shape = Shape(("a", "b", "c"), machines=((2, (1, 1, 1)),))
>>> [critical(shape, (4, 3, 2)), longer_at(shape, [(0, 1), (1, 2)], [(0, 1)]), longer_at(shape, [(0, 1)], [(0, 1), (1, 2)])]
[[1, 2], (0, 1, 1), None]

>>> from crewlags.plans import account, loads, plan_faults
>>> from crewlags.projects import Project
>>> p = Project(("a", "b"), 20, (3,), (), (((2, (2,), (), 5),), ((3, (2,), (), 1),)), overhead=10, late=(None, (4, 7)), crew=(("dig",), ("dig", "lift")), asks=((("dig", 1),), (("lift", 1),)))
>>> [plan_faults(p, (0, 0), (0, 1)), account(p, (0, 0), (0, 2)), loads(p, (0, 0), (0, 2), 0)]
[[('together', (0, 1), 1)], (5, 63, ()), [(0, 2), (5, 0)]]

>>> from crewlags.shapes import Shape
>>> from crewlags.steady import ratio, steadiest, worst
>>> shape = Shape(("a", "b", "c"), machines=((2, (1, 1, 1)),))
>>> [worst(shape, [(0, 1)]), steadiest(shape), ratio(shape, [(0, 1)], [(0, 2)])]
[(2, (0, 1)), (2, [(0, 1)]), (2, (0, 1))]

>>> from crewlags.mixes import blind, worst_mix
>>> from crewlags.shapes import Shape
>>> shape = Shape(("a", "b", "c"), machines=((2, (1, 1, 1)),))
>>> mix = [([(0, 1)], (1, 2)), ([(0, 2)], (1, 2))]
>>> [blind(shape)[0], worst_mix(shape, mix)]
[(4, 3), ((3, 2), (0, 1))]

>>> from crewlags.front import cheapest, cost_curve, trade_offs
>>> from crewlags.projects import Project
>>> first = ((2, (1,), (2,), 1), (4, (1,), (0,), 1))
>>> second = ((3, (1,), (1,), 0), (5, (0,), (1,), 4))
>>> p = Project(("a", "b"), 20, (1,), (3,), (first, second), overhead=1)
>>> [[row[0] for row in trade_offs(p)], cost_curve(p), cheapest(p, most=6)[0]]
[[(5, 6, (3,)), (5, 10, (1,)), (7, 8, (1,))], [(5, 6)], 6]

>>> from crewlags.counts import count_plans
>>> from crewlags.projects import Project
>>> p = Project(("a", "b"), 20, (1,), (), (((2, (1,), (), 1),), ((3, (1,), (), 0),)))
>>> [count_plans(p, (0, 0), most=most) for most in (4, 5, 6)]
[0, 2, 6]
'''

# what single points of the document tell, each with the value
TOLD = (
    (
        's = Shape(("a", "b", "c"), machines=((2, (1, 1, 1)), (9, (1, 2, 3))), crew=(("x",), ("x",)),'
        ' asks=((("x", 1),), (("x", 1),), (("x", 1),)))',
        "idle(s)", [("machine", 0), ("machine", 1), ("ask", 0, "x"), ("ask", 1, "x"), ("ask", 2, "x")],
        "enough(s)", [((), (0, 1))], "capacities(s)", [(2, None), (5, None)],
    ),
    (
        'shape = Shape(("a", "b", "c"), machines=((2, (1, 1, 1)),)); box = ((1, 2), (1, 3), (1, 1))',
        "least_and_greatest(shape, box)", (2, 3), "regret(shape, [(0, 1)], box)", (2, (2, 3, 1), (0, 1)),
        "calmest(shape, box)", (1, [[(0, 2)], [(1, 2)]]), "on_greatest(shape, [(0, 2)], box)", ((0, 1, 2), ()),
        "worst(shape, [(0, 1)])", (2, (0, 1)), "steadiest(shape)", (2, [(0, 1)]), "blind(shape)[0]", (4, 3),
    ),
    (
        "c = Calendar((True, True, True, False), changes=((1, False), (3, True)))",
        "[slot for slot in range(9) if is_work(c, slot)]", [0, 2, 3, 4, 5, 6, 8],
        "end_of(c, 0, 3)", 4, "end_of(c, 1, 1)", None, "latest_start(c, 8, 2)", 5, "turn_of(c)", (4, 4),
    ),
    (
        'p = Project(("a", "b"), 9, (), (), (((2, (), (), 0),), ((3, (), (), 0),)),'
        ' calendars=(None, Calendar((True, False))), lags=(("end", 0, "start", 1, 0, 1),))',
        "possible_starts(p, (0, 0), 1)", [0, 2, 4], "times(p, (0, 0))", ((0, 2), (2, 4)),
        "times(p, (0, 0), most=6)", None,
        'check_derivation(p, (0, 0), [(1, 2, ("lag", 0))], most=6)', None,
    ),
    (
        'p = Project(("a", "b"), 20, (3,), (), (((2, (2,), (), 5),), ((3, (2,), (), 1),)), overhead=10,'
        ' late=(None, (4, 7)), crew=(("dig",), ("dig", "lift")), asks=((("dig", 1),), (("lift", 1),)))',
        "plan_faults(p, (0, 0), (0, 1))", [("together", (0, 1), 1)], "account(p, (0, 0), (0, 2))", (5, 63, ()),
        "loads(p, (0, 0), (0, 2), 0)", [(0, 2), (5, 0)],
        'check_rota(p, (0, 0), (0, 2), [(0, 2, 0, 0, "dig"), (2, 5, 1, 1, "lift")])', None,
        "check_rota(p, (0, 0), (0, 2), rota(p, (0, 0), (0, 2)))", None,
    ),
    (
        'p = Project(("a", "b"), 20, (1,), (3,), (((2, (1,), (2,), 1), (4, (1,), (0,), 1)),'
        ' ((3, (1,), (1,), 0), (5, (0,), (1,), 4))), overhead=1)',
        "[row[0] for row in trade_offs(p)]", [(5, 6, (3,)), (5, 10, (1,)), (7, 8, (1,))], "cost_curve(p)", [(5, 6)],
        "count_plans(p, (0, 0), most=5)", 2, "shortest(p)[0]", 5, "cheapest(p)[0]", 6,
    ),
    (
        'p = Project(("a", "b"), 9, (1,), (), (((2, (1,), (), 0),), ((3, (1,), (), 0),)))',
        "paper_of(p, 5)", None, "fewest_leaves(p, 4)", 2, "flaw(p, 4, paper_of(p, 4))", None,
        'flaw(p, 4, ("modes", 0, (("modes", 1, (("energy", 0, 0, 4),)),)))', None,
    ),
    (
        'p = Project(("a", "b"), 20, (3,), (), (((2, (2,), (), 5),), ((3, (2,), (), 1),)), overhead=10,'
        ' late=(None, (4, 7)), crew=(("dig",), ("dig", "lift")), asks=((("dig", 1),), (("lift", 1),)))',
        "good_row(p, (0, 0))", (0, 2), "good_row(p, (0, 0), fixed=[(1, 1)])", (4, 1),
        "must_move(p, (0, 0), (0, 1))", (), "fewest_moved(p, (0, 0), (0, 1))", ((0,), (4, 1)),
        "least_shift(p, (0, 0), (0, 1))", (1, (0, 2)), "room(p, (0, 0), (1, 3))", [(1, 4), (3, 3)],
        "spans(p, (0, 0))", (5, [(0, 3), (0, 2)]),
    ),
    (
        'shape = Shape(("a", "b"), before=((0, 1),), machines=((3, (2, 2)),))',
        "shape_text(shape)", "activity a\nactivity b\nbefore a b\nmachine 3 2 2\n", "read_shape(shape_text(shape)) == shape", True,
    ),
)

MODULES = (
    beside, boxes, calendars, counts, front, mixes, papers, plans, projects, repairs, rotas, shapes, steady, texts, times,
)


def shown(lines):
    """What the last call of a session shows: the repr of its value, or the error that it raises."""
    names = {}
    for line in lines[:-1]:
        exec(line, names)
    try:
        return repr(eval(lines[-1], names))
    except errors.CrewError as error:
        told = ", ".join(repr(value) for value in vars(error).values())
        return f"raises {error.__class__.__name__}({told})"


class Examples(unittest.TestCase):
    def test_all_blocks(self):
        blocks = BLOCKS.strip().split("\n\n")
        self.assertEqual(len(blocks), 14)
        for block in blocks:
            *lines, told = block.split("\n")
            self.assertTrue(all(line.startswith(">>> ") for line in lines))
            self.assertEqual(shown([line[4:] for line in lines]), told)

    def test_what_single_points_tell(self):
        for first, *rows in TOLD:
            names = {}
            for module in MODULES:
                names.update(vars(module))
            exec(first, names)
            for line, told in zip(rows[::2], rows[1::2]):
                self.assertEqual(eval(line, names), told, line)


if __name__ == "__main__":
    unittest.main()
