"""The examples of the document that need the modules of shapes, orders, graphs, schedules, lengths and bounds."""

import unittest

from crewlags import errors

BLOCKS = '''
>>> from crewlags.shapes import Shape, allowed_sets, excess, least_forbidden
>>> s = Shape(("a", "b", "c", "d"), before=((0, 1),), machines=((2, (1, 1, 1, 1)),), crew=(("weld",), ("weld", "lift")), asks=((), (("lift", 1),), (("weld", 2),), (("weld", 1),)))
>>> [allowed_sets(s), least_forbidden(s), excess(s, (1, 2))]
[[(0,), (1,), (2,), (3,), (0, 2), (0, 3), (1, 3)], [(1, 2), (2, 3)], ('crew', ('lift', 'weld'))]

>>> from crewlags.shapes import Shape
>>> Shape(("a", "b"), before=((0, 1), (1, 0)))
raises NoShape('before', 1)

>>> from crewlags.bounds import best_bound
>>> from crewlags.shapes import Shape
>>> best_bound(Shape(("a", "b", "c"), machines=((2, (1, 1, 1)),)), (1, 1, 1))[:2]
((3, 2), ((1, 2), (1, 2), (1, 2)))

>>> from crewlags.graphs import least_graphs, single, sure_pairs
>>> from crewlags.shapes import Shape
>>> s = Shape(('a', 'b', 'c'), machines=((2, (1, 1, 1)),))
>>> (least_graphs(s), sure_pairs(s), single(s))
([[(0, 1)], [(0, 2)], [(1, 2)]], [], ('set', (0, 1, 2)))

>>> from crewlags.graphs import orient, single
>>> from crewlags.orders import closed
>>> from crewlags.shapes import Shape
>>> s = Shape(('a', 'b', 'c', 'd'), before=((0, 1),), machines=((2, (1, 1, 1, 1)),), crew=(('weld',), ('weld', 'lift')), asks=((), (('lift', 1),), (('weld', 2),), (('weld', 1),)))
>>> (single(s), orient(s, [(0, 1), (1, 2), (2, 3)]), closed(s, [(1, 2), (2, 0)]))
(('graph', [(0, 1), (1, 2), (2, 3)]), [(0, 1), (2, 1), (2, 3)], ('ring', (0, 1, 2)))

>>> from crewlags.schedules import overlapping
>>> overlapping((3, 0, 2), (0, 1, 3))
[(0, 1)]

>>> from crewlags.lengths import best_graphs, growth, least_time, slack
>>> from crewlags.shapes import Shape
>>> shape = Shape(("a", "b", "c"), machines=((2, (1, 1, 1)),))
>>> [least_time(shape, (4, 3, 2)), growth(shape, (4, 3, 2), 0), slack(shape, (4, 3, 2), 0), best_graphs(shape, (4, 3, 2))]
[(5, (0, 0, 3), [(1, 2)], (1, 2)), [(0, 3, 0), (1, 3, 1), (3, 5, 0), (5, 5, 1)], 1, [[(1, 2)]]]

>>> from crewlags.lengths import critical, longer_at
>>> from crewlags.shapes import Shape
>>> shape = Shape(("a", "b", "c"), machines=((2, (1, 1, 1)),))
>>> [critical(shape, (4, 3, 2)), longer_at(shape, [(0, 1), (1, 2)], [(0, 1)]), longer_at(shape, [(0, 1)], [(0, 1), (1, 2)])]
[[1, 2], (0, 1, 1), None]
'''


def shown(lines):
    """What the last call of a session shows: the repr of its value, or the error that it raises."""
    names = {}
    for line in lines[:-1]:
        exec(line, names)
    try:
        return repr(eval(lines[-1], names))
    except errors.CrewError as error:
        told = ", ".join(repr(value) for value in vars(error).values())
        return f"raises {error.__class__.__name__}({told})"


class Examples(unittest.TestCase):
    def test_all_blocks(self):
        blocks = BLOCKS.strip().split("\n\n")
        self.assertEqual(len(blocks), 8)
        for block in blocks:
            *lines, told = block.split("\n")
            self.assertTrue(all(line.startswith(">>> ") for line in lines))
            self.assertEqual(shown([line[4:] for line in lines]), told)


if __name__ == "__main__":
    unittest.main()
