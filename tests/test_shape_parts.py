"""[5], [6]: Shape, its attributes, and what it refuses."""

import unittest

from crewlags.errors import NoShape
from crewlags.shapes import Shape
from tests.support import FOUR, fields, looped, no_rows, odd_values, some_shape, wrong_pairs

ABC = ("a", "b", "c")
CREW = (("x",), ("x", "y"))
ASKS = ((("x", 1),), (), (("y", 1), ("x", 1)))


class Attributes(unittest.TestCase):
    def test_what_was_left_out_is_empty(self):
        shape = Shape(["one"])
        self.assertEqual(vars_of(shape), (("one",), (), (), (), ()))

    def test_rows_may_be_lists_and_attributes_are_tuples(self):
        rows = (ABC, ((0, 1), (1, 2)), ((5, (1, 2, 3)),), CREW, ASKS)
        told = Shape(list(rows[0]), before=list(rows[1]), machines=list(rows[2]), crew=list(rows[3]), asks=list(rows[4]))
        self.assertEqual(vars_of(told), rows)
        for part in vars_of(told):
            self.assertIs(type(part), tuple)
        self.assertEqual(told, Shape(rows[0], before=rows[1], machines=rows[2], crew=rows[3], asks=rows[4]))

    def test_an_empty_list_is_as_nothing(self):
        self.assertEqual(Shape(ABC, before=[], machines=[], crew=[], asks=[]), Shape(ABC))
        self.assertEqual(Shape(ABC, asks=[]).asks, ())

    def test_rows_keep_their_order_and_what_is_told_twice(self):
        shape = Shape(("b", "a"), before=((1, 0), (1, 0)), machines=((2, (1, 0)), (1, (0, 1))), crew=(("y", "x"), ()))
        self.assertEqual(shape.names, ("b", "a"))
        self.assertEqual(shape.before, ((1, 0), (1, 0)))
        self.assertEqual(shape.machines, ((2, (1, 0)), (1, (0, 1))))
        self.assertEqual(shape.crew, (("y", "x"), ()))

    def test_equal_if_all_attributes_are(self):
        for seed in range(40):
            self.assertTrue(some_shape(seed, 4) == some_shape(seed, 4))
            self.assertFalse(some_shape(seed, 4) != some_shape(seed, 4))

    def test_each_attribute_counts(self):
        rows = {"before": ((0, 1),), "machines": ((5, (1, 2, 3)),), "crew": CREW, "asks": ASKS}
        shape = Shape(ABC, **rows)
        others = [
            Shape(("a", "b", "d"), **rows),
            Shape(ABC, **{**rows, "before": ((0, 2),)}),
            Shape(ABC, **{**rows, "before": ((0, 1), (0, 1))}),
            Shape(ABC, **{**rows, "machines": ((6, (1, 2, 3)),)}),
            Shape(ABC, **{**rows, "machines": ((5, (1, 2, 4)),)}),
            Shape(ABC, **{**rows, "crew": CREW[::-1]}),
            Shape(ABC, **{**rows, "asks": ASKS[::-1]}),
            Shape(ABC, **{**rows, "asks": ()}),
        ]
        for other in others:
            self.assertFalse(shape == other)
            self.assertTrue(shape != other)
        self.assertTrue(shape == Shape(ABC, **rows))


class Names(unittest.TestCase):
    def test_names_that_are_some(self):
        for name in ("a", "z", "a1", "a-", "a--9", "abcdefghijkl", "z0-123456789"):
            self.assertEqual(Shape((name,)).names, (name,))
        letters = "abcdefghijklmnopqrstuvwxyz"
        self.assertEqual(Shape((letters[:12], letters[12:24], letters[24:])).names[2], "yz")
        self.assertEqual(len(Shape(tuple("abcdefg")).names), 7)

    def test_no_list_or_tuple_of_one_to_seven(self):
        for value in no_rows() + ["abc", (), [], tuple("abcdefgh"), list("abcdefgh"), [1] * 8, {"a": 1}]:
            self.refused(value, -1)

    def test_the_first_item_that_is_no_name(self):
        wrong = odd_values() + ["", "A", "1a", "-a", "a b", "aB", "a_", "a.", "abcdefghijklm", "\u00e4", "a\u00e4", "a\n",
                                " a", "a\u0661", ("a",), ["a"], 1, 0, b"a"]
        for name in wrong:
            self.refused((name,), 0)
            self.refused(["a", "b", name, "c", name], 2)
            self.refused(("a", "b", name, "a", ""), 2)

    def test_the_first_item_that_was_there_already(self):
        self.refused(("a", "b", "a"), 2)
        self.refused(["a", "b", "b", "a", ""], 2)
        self.refused(("a", "a", "", "b"), 1)

    def refused(self, names, index):
        expect(self, ("names", index), names)
        # what is wrong behind the names does not matter
        expect(self, ("names", index), names, before=5, machines=5, crew=5, asks=5)


class Before(unittest.TestCase):
    def test_no_list_or_tuple_of_at_most_thirty(self):
        for value in no_rows() + ["", {(0, 1): 1}, [(0, 1)] * 31, ((0, 1),) * 31, [5] * 31]:
            self.refused(value, -1)

    def test_thirty(self):
        self.assertEqual(Shape(ABC, before=[(0, 1)] * 30).before, ((0, 1),) * 30)
        self.refused([(0, 1)] * 29 + [(1, 0)], 29)
        self.refused([(0, 1)] * 29 + [None], 29)

    def test_the_first_item_that_is_no_pair(self):
        for pair in wrong_pairs(3):
            self.refused([pair], 0)
            self.refused(((0, 1), (0, 1), pair, (1, 0), pair), 2)

    def test_indexes_are_those_of_the_activities(self):
        self.assertEqual(Shape(tuple("abcdefg"), before=((6, 0),)).before, ((6, 0),))
        expect(self, ("before", 0), ("a",), before=((0, 1),))
        expect(self, ("before", 1), ("a", "b"), before=((0, 1), (1, 2)))

    def test_the_first_with_which_something_is_ahead_of_itself(self):
        self.refused(((0, 1), (1, 0)), 1)
        self.refused(((0, 1), (1, 2), (2, 0)), 2)
        self.refused([(1, 2), (0, 1), (0, 2), (2, 0), (3, 3), 5], 3)
        expect(self, ("before", 6), tuple("abcdefg"),
               before=[(3, 4), (1, 2), (5, 6), (0, 1), (4, 5), (2, 3), (6, 0), (0, 6)])
        expect(self, ("before", 4), tuple("abcde"), before=[(2, 3), (0, 1), (3, 4), (1, 2), (4, 0)])

    def test_each_ring_of_four_is_found_and_nothing_else(self):
        pairs = [(a, b) for a in range(4) for b in range(4) if a != b]
        for one in pairs:
            for two in pairs:
                for three in pairs:
                    told = (one, two, three)
                    at = first_ring(told)
                    if at is None:
                        self.assertEqual(Shape(tuple("abcd"), before=told).before, told)
                    else:
                        expect(self, ("before", at), tuple("abcd"), before=told)

    def refused(self, before, index):
        expect(self, ("before", index), ABC, before=before)
        expect(self, ("before", index), ABC, before=before, machines=5, crew=5, asks=5)


class Machines(unittest.TestCase):
    def test_no_list_or_tuple_of_at_most_four(self):
        one = (1, (1, 1, 1))
        for value in no_rows() + ["", {one: 1}, [one] * 5, (one,) * 5, [5] * 5]:
            self.refused(value, -1)
        self.assertEqual(Shape(ABC, machines=[one] * 4).machines, (one,) * 4)

    def test_capacities(self):
        for capacity in (0, 1, 999, 1000):
            self.assertEqual(Shape(ABC, machines=((capacity, (0, 0, 0)),)).machines, ((capacity, (0, 0, 0)),))
        for capacity in odd_values() + [-1, 1001, "1", (1, 2), [1], b"1"]:
            self.refused_item((capacity, (0, 0, 0)))

    def test_demands(self):
        self.assertEqual(Shape(ABC, machines=((1000, (1000, 0, 1000)),)).machines[0][1], (1000, 0, 1000))
        for demand in odd_values() + [-1, 4, 1000, (1, 2), "1"]:
            for at in range(3):
                demands = [1, 2, 3]
                demands[at] = demand
                self.refused_item((3, tuple(demands)))
        for demands in odd_values() + [(), (1, 1), (1, 1, 1, 1), [1, 1, 1], "111", b"111", {0: 1, 1: 1, 2: 1}]:
            self.refused_item((3, demands))
        self.refused_item((0, (0, 0, 1)))

    def test_items_that_are_no_machine(self):
        for item in odd_values() + [(), (1,), (1, (1, 1, 1), 1), [1, (1, 1, 1)], 1, (1, 1, 1), ((1, 1, 1), 1)]:
            self.refused_item(item)

    def refused_item(self, item):
        self.refused([item], 0)
        self.refused(((9, (1, 2, 3)), (9, (0, 0, 0)), item, item), 2)

    def refused(self, machines, index):
        expect(self, ("machines", index), ABC, machines=machines)
        expect(self, ("machines", index), ABC, machines=machines, crew=5, asks=5)


class Crew(unittest.TestCase):
    def test_no_list_or_tuple_of_at_most_eight(self):
        for value in no_rows() + ["", {("x",): 1}, [("x",)] * 9, ((),) * 9, [5] * 9]:
            self.refused(value, -1)
        self.assertEqual(Shape(ABC, crew=[("x",)] * 8).crew, (("x",),) * 8)

    def test_workers(self):
        five = ("a", "b", "c", "d", "e")
        for worker in ((), ("x",), five, ("abcdefghijkl", "z-9"), five[::-1]):
            self.assertEqual(Shape(ABC, crew=(worker,)).crew, (worker,))
        wrong = odd_values() + [
            "x", ["x"], ("x", "x"), ("x", "y", "x"), five + ("f",), five + ("a",), ("X",), ("x", ""), (5,), ({},), ("-x",),
            (("x",),), (["x"],), ("abcdefghijklm",), 5, ("x", None), (b"x",), ("x", looped()),
        ]
        for worker in wrong:
            self.refused([worker], 0)
            self.refused((("x",), (), worker, worker, ("a", "b", "c", "d", "e")), 2)

    def test_five_skills_in_all(self):
        crew = [("a", "b"), ("c",), ("d", "e"), ("a", "e"), ()]
        self.assertEqual(Shape(ABC, crew=crew).crew, tuple(crew))
        self.refused(crew + [("f",), ("f",)], 5)
        self.refused([("a", "b", "c"), ("d", "e", "f"), ("g", "g")], 1)
        self.refused([("a", "b", "c", "d"), ("a", "e"), ("e", "d"), ("f",), 5], 3)

    def refused(self, crew, index):
        expect(self, ("crew", index), ABC, crew=crew)
        expect(self, ("crew", index), ABC, crew=crew, asks=5)


class Asks(unittest.TestCase):
    def test_none_or_one_for_each_activity(self):
        for value in no_rows() + ["", "abc", {(): 1}, ((),), [()] * 2, ((),) * 4, [5] * 4, (5,), b"abc"]:
            expect(self, ("asks", -1), ABC, crew=CREW, asks=value)
        self.assertEqual(Shape(ABC, asks=((),) * 3).asks, ((), (), ()))
        self.assertEqual(Shape(ABC, asks=[(), (), ()]).asks, ((), (), ()))

    def test_items(self):
        crew = [("x", "y", "z", "u")] * 8
        for item in ((), (("x", 1),), (("x", 8),), (("z", 3), ("x", 2), ("y", 3))):
            self.assertEqual(Shape(ABC, crew=crew, asks=((), item, ())).asks[1], item)
        wrong = odd_values() + [
            "x", ("x", 1), [("x", 1)], (("x", 0),), (("x", 9),), (("x", -1),), (("x", True),), (("x", None),),
            (("x", "1"),), (("x",),), (("x", 1, 1),), (["x", 1],), (("X", 1),), (("", 1),), ((5, 1),), ((None, 1),),
            (("x", 1), ("x", 1)), (("x", 1), ("y", 1), ("x", 2)), (("x", 1), ("y", 1), ("z", 1), ("u", 1)),
            (({}, 1),), (([], 1),), ((("x",), 1),), (("x", (1, 2)),), (("x", 1), None), ("x1",), (b"x1",), (looped(),),
            (("x", looped()),), ((1, "x"),), (("x", 1j),),
        ]
        for item in wrong:
            for items, at in (((item, (), ()), 0), ([(), (("x", 1),), item], 2), (((), item, item), 1)):
                expect(self, ("asks", at), ABC, crew=crew, asks=items)

    def test_sixth_skill(self):
        crew = [("a", "b", "c"), ("d",)]
        expect(self, ("asks", 1), ABC, crew=crew, asks=((("a", 1),), (("e", 1), ("f", 1)), ()))
        expect(self, ("asks", 0), ABC, crew=[("a", "b", "c", "d", "e")] * 8, asks=((("f", 1),), (), ()))
        self.assertEqual(len(Shape(ABC, crew=[("a", "b", "c", "d", "e")], asks=((("e", 1),), (), ())).asks), 3)

    def test_what_the_crew_cannot_serve_alone(self):
        crew = [("x",), ("x", "y"), ("z",), ()]
        served = [(("x", 2),), (("y", 1), ("x", 1)), (("z", 1), ("x", 1), ("y", 1)), (("z", 1), ("x", 2)), ()]
        for item in served:
            self.assertEqual(Shape(ABC, crew=crew, asks=((), item, item)).asks[2], item)
        for item in ((("x", 3),), (("y", 2),), (("x", 2), ("y", 1)), (("z", 1), ("x", 2), ("y", 1)), (("u", 1),)):
            expect(self, ("asks", 1), ABC, crew=crew, asks=((("x", 1),), item, None))
            expect(self, ("asks", 0), ABC, crew=crew, asks=[item, (), ()])
        expect(self, ("asks", 2), ABC, asks=((), (), (("x", 1),)))

    def test_two_that_the_crew_can_serve_alone_but_not_together(self):
        asks = ((("x", 2),), (("x", 2),), (("y", 1),))
        self.assertEqual(Shape(ABC, crew=CREW, asks=asks).asks, asks)


class WrongTogether(unittest.TestCase):
    def test_the_first_parameter_counts(self):
        wrong = {"before": ((0, 3),), "machines": ((1, (1, 1)),), "crew": (5,), "asks": ((),)}
        parts = list(wrong)
        indexes = {"before": 0, "machines": 0, "crew": 0, "asks": -1}
        for at, part in enumerate(parts):
            expect(self, (part, indexes[part]), ABC, **{one: wrong[one] for one in parts[at:]})
        expect(self, ("names", 1), ("a", "a", "b"), **wrong)

    def test_examples(self):
        expect(self, ("before", 1), ("a", "b"), before=((0, 1), (1, 0)))
        self.assertEqual(FOUR.before, ((0, 1),))


def vars_of(shape):
    return shape.names, shape.before, shape.machines, shape.crew, shape.asks


def first_ring(pairs):
    """The index of the first pair with which something is ahead of itself, or None."""
    for at in range(len(pairs)):
        told = set(pairs[:at + 1])
        for _ in range(4):
            told |= {(a, d) for a, b in told for c, d in told if b == c}
        if any(a == b for a, b in told):
            return at
    return None


def expect(case, told, names, **parts):
    with case.assertRaises(NoShape) as caught:
        Shape(names, **parts)
    case.assertEqual(fields(caught.exception), {"part": told[0], "index": told[1]}, (names, parts))


if __name__ == "__main__":
    unittest.main()
