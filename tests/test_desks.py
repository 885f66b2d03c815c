"""[77], [78]: desks, and what changes of a shape bring and take."""

import random
import unittest

from crewlags.desks import Desk
from crewlags.errors import CrewError, NoChange, NoShape
from crewlags.lengths import least_time
from crewlags.shapes import Shape, allowed_sets
from tests.support import FOUR, THREE, allowed, fraction, odd_values, raised, some_durations, some_shape

BEGIN = Shape(
    ("a", "b", "c"), before=((0, 1),), machines=((2, (1, 1, 1)), (5, (3, 2, 4))), crew=(("x",), ("x", "y")),
    asks=((("x", 1),), (), (("y", 1),)),
)


def other(**parts):
    """The shape BEGIN with other parts."""
    return Shape(BEGIN.names, **{**{name: value for name, value in vars(BEGIN).items() if name != "names"}, **parts})


class Changes(unittest.TestCase):
    def changed(self, call, right):
        """That a change leads to a shape, tells None, and is one that can be taken back."""
        desk = Desk(BEGIN)
        self.assertIsNone(call(desk))
        self.assertEqual(desk.shape_now(), right)
        self.assertIs(desk.undo(), True)
        self.assertEqual(desk.shape_now(), BEGIN)
        self.assertIs(desk.undo(), False)
        self.assertIs(desk.redo(), True)
        self.assertEqual(desk.shape_now(), right)
        self.assertIs(desk.redo(), False)

    def test_add_pair(self):
        self.changed(lambda desk: desk.add_pair(1, 2), other(before=((0, 1), (1, 2))))
        self.changed(lambda desk: desk.add_pair(0, 1), other(before=((0, 1), (0, 1))))
        self.changed(lambda desk: desk.add_pair(one=2, other=0), other(before=((0, 1), (2, 0))))

    def test_drop_pair(self):
        self.changed(lambda desk: desk.drop_pair(0), other(before=()))
        desk = Desk(other(before=((0, 1), (1, 2), (0, 2))))
        self.assertIsNone(desk.drop_pair(index=1))
        self.assertEqual(desk.shape_now().before, ((0, 1), (0, 2)))
        desk.drop_pair(1)
        self.assertEqual(desk.shape_now().before, ((0, 1),))
        desk.drop_pair(0)
        self.assertEqual(desk.shape_now().before, ())

    def test_put_machine(self):
        first, second = BEGIN.machines
        new = (7, (7, 0, 1))
        self.changed(lambda desk: desk.put_machine(0, *new), other(machines=(new, second)))
        self.changed(lambda desk: desk.put_machine(1, *new), other(machines=(first, new)))
        self.changed(lambda desk: desk.put_machine(2, *new), other(machines=(first, second, new)))
        self.changed(lambda desk: desk.put_machine(index=2, capacity=7, demands=(7, 0, 1)), other(machines=(first, second, new)))
        # the same machine once more is a change, too
        self.changed(lambda desk: desk.put_machine(0, *first), BEGIN)

    def test_hire_and_dismiss(self):
        self.changed(lambda desk: desk.hire(("z", "y")), other(crew=(("x",), ("x", "y"), ("z", "y"))))
        self.changed(lambda desk: desk.hire(skills=()), other(crew=(("x",), ("x", "y"), ())))
        self.changed(lambda desk: desk.dismiss(0), other(crew=(("x", "y"),)))
        desk = Desk(other(asks=()))
        desk.dismiss(index=1)
        self.assertEqual(desk.shape_now().crew, (("x",),))

    def test_put_asks(self):
        new = ((), (("y", 1), ("x", 1)), (("x", 2),))
        self.changed(lambda desk: desk.put_asks(new), other(asks=new))
        self.changed(lambda desk: desk.put_asks(asks=list(new)), other(asks=new))
        self.changed(lambda desk: desk.put_asks(()), other(asks=()))
        self.changed(lambda desk: desk.put_asks([]), other(asks=()))

    def test_lists_handed_in_and_changed_later(self):
        asks = [(), (("y", 1),), ()]
        desk = Desk(BEGIN)
        desk.put_asks(asks)
        asks.clear()
        self.assertEqual(desk.shape_now(), other(asks=((), (("y", 1),), ())))
        self.assertIs(type(desk.shape_now().asks), tuple)
        parts = {"machines": [(2, (1, 1))], "before": [(0, 1)]}
        shape = Shape(["a", "b"], **parts)
        desk = Desk(shape)
        for rows in parts.values():
            rows.clear()
        self.assertEqual(desk.shape_now(), Shape(("a", "b"), before=((0, 1),), machines=((2, (1, 1)),)))

    def test_the_shape_at_first_stays(self):
        desk = Desk(shape=BEGIN)
        self.assertEqual(desk.shape_now(), BEGIN)
        kept = dict(vars(BEGIN))
        desk.add_pair(1, 2)
        desk.hire(("y",))
        self.assertEqual(vars(BEGIN), kept)


class Refused(unittest.TestCase):
    def refused(self, desk, word, *arguments):
        """That a change is refused, and changes nothing."""
        now = desk.shape_now()
        self.assertEqual(raised(lambda: getattr(desk, word)(*arguments)), (NoChange, {"word": word}))
        self.assertEqual(desk.shape_now(), now)

    def test_pairs(self):
        desk = Desk(BEGIN)
        for one, two in ((1, 0), (0, 0), (0, 3), (3, 0), (-1, 0), (0, -1), (True, 2), (2, True), (None, 1), ("0", 1), (0, (1,)),
                         ([0], 1), ((0, 1), (1, 2))):
            self.refused(desk, "add_pair", one, two)
        for value in odd_values():
            self.refused(desk, "add_pair", value, 1)
            self.refused(desk, "add_pair", 0, value)
            self.refused(desk, "drop_pair", value)
        for index in (1, -1, 2, "0", (0,), True, False, None):
            self.refused(desk, "drop_pair", index)
        self.refused(Desk(THREE), "drop_pair", 0)
        full = Desk(Shape(("a", "b"), before=((0, 1),) * 30))
        self.refused(full, "add_pair", 0, 1)
        full.drop_pair(29)
        full.add_pair(0, 1)
        chain = Desk(other(before=((0, 1), (1, 2))))
        self.refused(chain, "add_pair", 2, 0)

    def test_machines(self):
        desk = Desk(BEGIN)
        right = (1, (1, 1, 1))
        for index in [3, -1, "0", (0,), True, False, None] + odd_values():
            self.refused(desk, "put_machine", index, *right)
        for capacity in [-1, 1001, 0, "1", (1,), True, None] + odd_values():
            self.refused(desk, "put_machine", 0, capacity, (1, 1, 1))
        for demands in [(), (1, 1), (1, 1, 1, 1), [1, 1, 1], (2, 1, 1), (1, 1, -1), (1, True, 1), "111"] + odd_values():
            self.refused(desk, "put_machine", 0, 1, demands)
        full = Desk(Shape(("a",), machines=((1, (1,)),) * 4))
        self.refused(full, "put_machine", 4, 1, (1,))
        full.put_machine(3, 2, (1,))
        self.assertEqual(full.shape_now().machines, ((1, (1,)),) * 3 + ((2, (1,)),))

    def test_workers(self):
        desk = Desk(BEGIN)
        for skills in [["x"], "x", ("x", "x"), ("X",), (1,), (None,), ("a", "b", "c", "d", "e", "f"), ("a", "b", "c", "d"),
                       (("x",),)] + odd_values():
            self.refused(desk, "hire", skills)
        for index in [2, -1, "0", (0,), True, False, None] + odd_values():
            self.refused(desk, "dismiss", index)
        # nobody else has the skill y
        self.refused(desk, "dismiss", 1)
        self.refused(Desk(THREE), "dismiss", 0)
        full = Desk(Shape(("a",), crew=(("x",),) * 8))
        self.refused(full, "hire", ("x",))
        full.dismiss(7)
        full.hire(())

    def test_asks(self):
        desk = Desk(BEGIN)
        for asks in [((),), ((),) * 4, ((), (), (("x", 3),)), ((), (), (("z", 1),)), ((), (), [("x", 1)]), ((), (), (["x", 1],)),
                     ((), (), (("x", 0),)), ((), (), (("x", 1), ("x", 1))), "abc", None, {}, {0: ()}] + odd_values():
            self.refused(desk, "put_asks", asks)

    def test_no_shape(self):
        for value in odd_values() + [(), [], "abc", Desk(THREE), Shape]:
            if not isinstance(value, Shape):
                self.assertEqual(raised(lambda: Desk(value)), (NoShape, {"part": "shape", "index": -1}))

    def test_a_refused_change_is_none(self):
        desk = Desk(BEGIN)
        self.refused(desk, "dismiss", 1)
        self.assertIs(desk.undo(), False)
        desk.hire(("y",))
        desk.undo()
        for word, arguments in (("drop_pair", (7,)), ("add_pair", (1, 0)), ("put_machine", (9, 1, ())), ("hire", (None,)),
                                ("dismiss", (None,)), ("put_asks", (None,))):
            self.refused(desk, word, *arguments)
        # what was taken back before it can still be done again
        self.assertIs(desk.redo(), True)
        self.assertEqual(desk.shape_now().crew, (("x",), ("x", "y"), ("y",)))
        self.refused(desk, "dismiss", 9)
        self.assertIs(desk.undo(), True)
        self.assertEqual(desk.shape_now(), BEGIN)


class UndoAndRedo(unittest.TestCase):
    def test_through_several_changes(self):
        desk = Desk(BEGIN)
        shapes = [BEGIN]
        for change in (lambda: desk.add_pair(1, 2), lambda: desk.hire(("y",)), lambda: desk.dismiss(0), lambda: desk.put_asks(()),
                       lambda: desk.drop_pair(0)):
            change()
            shapes.append(desk.shape_now())
        self.assertIs(desk.redo(), False)
        for shape in shapes[-2::-1]:
            self.assertIs(desk.undo(), True)
            self.assertEqual(desk.shape_now(), shape)
        for _ in range(2):
            self.assertIs(desk.undo(), False)
            self.assertEqual(desk.shape_now(), BEGIN)
        for shape in shapes[1:]:
            self.assertIs(desk.redo(), True)
            self.assertEqual(desk.shape_now(), shape)
        for _ in range(2):
            self.assertIs(desk.redo(), False)
            self.assertEqual(desk.shape_now(), shapes[-1])

    def test_behind_a_new_change(self):
        desk = Desk(BEGIN)
        desk.hire(("y",))
        desk.hire(("x",))
        desk.undo()
        desk.hire(("z",))
        self.assertIs(desk.redo(), False)
        self.assertEqual(desk.shape_now().crew, BEGIN.crew + (("y",), ("z",)))
        self.assertIs(desk.undo(), True)
        self.assertEqual(desk.shape_now().crew, BEGIN.crew + (("y",),))
        self.assertIs(desk.undo(), True)
        self.assertEqual(desk.shape_now(), BEGIN)
        self.assertIs(desk.undo(), False)
        self.assertIs(desk.redo(), True)
        self.assertIs(desk.redo(), True)
        self.assertEqual(desk.shape_now().crew, BEGIN.crew + (("y",), ("z",)))

    def test_two_desks_are_two(self):
        one, two = Desk(BEGIN), Desk(BEGIN)
        one.drop_pair(0)
        self.assertEqual(two.shape_now(), BEGIN)
        self.assertIs(two.undo(), False)

    def test_a_desk_is_equal_to_nothing_of_another_kind(self):
        desk = Desk(BEGIN)
        for value in odd_values() + [BEGIN, [BEGIN], vars(desk)]:
            self.assertIs(desk == value, False)
            self.assertIs(value == desk, False)

    def test_against_a_list_of_shapes(self):
        rnd = random.Random(1)
        taken = 0
        for seed in range(40):
            shape = some_shape(seed, 3)
            desk, past, back = Desk(shape), [shape], []
            for _ in range(25):
                kind = rnd.randint(0, 8)
                try:
                    if kind == 0:
                        desk.add_pair(rnd.randint(0, 3), rnd.randint(0, 3))
                    elif kind == 1:
                        desk.drop_pair(rnd.randint(-1, 2))
                    elif kind == 2:
                        desk.put_machine(rnd.randint(0, 3), rnd.randint(0, 4), tuple(rnd.randint(0, 2) for _ in range(3)))
                    elif kind == 3:
                        desk.hire(tuple(rnd.sample(("dig", "lift", "x"), rnd.randint(0, 2))))
                    elif kind == 4:
                        desk.dismiss(rnd.randint(0, 3))
                    elif kind == 5:
                        desk.put_asks(rnd.choice(((), ((),) * 3, ((("dig", 1),), (), ()))))
                    elif kind == 6:
                        self.assertIs(desk.redo(), bool(back))
                        past += [back.pop()] if back else []
                    else:
                        self.assertIs(desk.undo(), len(past) > 1)
                        back += [past.pop()] if len(past) > 1 else []
                    if kind < 6:
                        past, back = past + [desk.shape_now()], []
                except CrewError as error:
                    self.assertIsInstance(error, NoChange)
                self.assertEqual(desk.shape_now(), past[-1])
                now, then = allowed(past[-1]), allowed(shape)
                right = [some for some in then if some not in now], [some for some in now if some not in then]
                self.assertEqual(desk.moved_sets(), right)
                taken += right != ([], [])
        self.assertGreater(taken, 50)


class MovedSets(unittest.TestCase):
    def test_in_both_directions(self):
        desk = Desk(THREE)
        self.assertEqual(desk.moved_sets(), ([], []))
        desk.put_machine(0, 3, (1, 1, 1))
        self.assertEqual(desk.moved_sets(), ([], [(0, 1, 2)]))
        desk.add_pair(0, 1)
        self.assertEqual(desk.moved_sets(), ([(0, 1)], []))
        desk.drop_pair(0)
        desk.put_machine(0, 3, (1, 1, 3))
        self.assertEqual(desk.moved_sets(), ([(0, 2), (1, 2)], []))
        desk.undo()
        desk.undo()
        desk.undo()
        self.assertEqual(desk.moved_sets(), ([], [(0, 1, 2)]))
        desk.undo()
        self.assertEqual(desk.moved_sets(), ([], []))
        desk.redo()
        self.assertEqual(desk.moved_sets(), ([], [(0, 1, 2)]))

    def test_both_at_once(self):
        desk = Desk(Shape(("a", "b", "c"), machines=((1, (1, 1, 0)),)))
        desk.put_machine(0, 1, (0, 1, 1))
        self.assertEqual(desk.moved_sets(), ([(1, 2)], [(0, 1)]))
        self.assertIs(type(desk.moved_sets()), tuple)
        self.assertIs(type(desk.moved_sets()[0]), list)

    def test_from_the_first_shape_on(self):
        desk = Desk(FOUR)
        desk.put_asks(())
        desk.put_machine(0, 3, (1, 1, 1, 1))
        first = set(allowed_sets(FOUR))
        self.assertEqual(desk.moved_sets(), ([], [some for some in allowed_sets(desk.shape_now()) if some not in first]))

    def test_the_lists_are_new(self):
        desk = Desk(THREE)
        desk.put_machine(0, 1, (1, 1, 1))
        desk.moved_sets()[0].clear()
        self.assertEqual(desk.moved_sets(), ([(0, 1), (0, 2), (1, 2)], []))


class Facts(unittest.TestCase):
    def moves(self, shape, call):
        """What a change takes and brings, None if it is refused."""
        desk = Desk(shape)
        if raised(lambda: call(desk)) is not None:
            return None
        return desk.moved_sets()

    def test_no_allowed_set_comes(self):
        rnd = random.Random(1)
        gone = {"pair": 0, "capacity": 0, "demand": 0}
        for seed in range(200):
            shape = some_shape(seed, 4)
            told = self.moves(shape, lambda desk: desk.add_pair(rnd.randrange(4), rnd.randrange(4)))
            self.assertTrue(told is None or told[1] == [])
            gone["pair"] += told is not None and told[0] != []
            for at, (capacity, demands) in enumerate(shape.machines):
                told = self.moves(shape, lambda desk: desk.put_machine(at, max(demands), demands))
                self.assertEqual(told[1], [])
                gone["capacity"] += told[0] != []
                a = rnd.randrange(4)
                more = demands[:a] + (capacity,) + demands[a + 1:]
                told = self.moves(shape, lambda desk: desk.put_machine(at, capacity, more))
                self.assertEqual(told[1], [])
                gone["demand"] += told[0] != []
        self.assertGreater(min(gone.values()), 20, gone)

    def test_no_allowed_set_goes(self):
        rnd = random.Random(2)
        come = {"hire": 0, "drop": 0, "capacity": 0}
        for seed in range(200):
            shape = some_shape(seed, 4)
            skills = sorted({skill for worker in shape.crew for skill in worker})
            told = self.moves(shape, lambda desk: desk.hire(tuple(skills)))
            self.assertTrue(told is None or told[0] == [])
            come["hire"] += told is not None and told[1] != []
            if shape.before:
                told = self.moves(shape, lambda desk: desk.drop_pair(rnd.randrange(len(shape.before))))
                self.assertEqual(told[0], [])
                come["drop"] += told[1] != []
            for at, (capacity, demands) in enumerate(shape.machines):
                told = self.moves(shape, lambda desk: desk.put_machine(at, capacity + rnd.randint(1, 3), demands))
                self.assertEqual(told[0], [])
                come["capacity"] += told[1] != []
        self.assertGreater(min(come.values()), 10, come)

    def test_with_a_worker_more_the_least_time_is_never_longer(self):
        rnd = random.Random(3)
        shorter = 0
        for seed in range(200):
            shape = some_shape(seed, 4)
            if len(shape.crew) in (0, 8):
                continue
            desk = Desk(shape)
            skills = sorted({skill for worker in shape.crew for skill in worker})
            desk.hire(tuple(rnd.sample(skills, rnd.randint(0, len(skills)))))
            for _ in range(3):
                durations = some_durations(rnd, 4)
                one, two = least_time(shape, durations)[0], least_time(desk.shape_now(), durations)[0]
                self.assertLessEqual(fraction(two), fraction(one))
                shorter += one != two
        self.assertGreater(shorter, 10)


if __name__ == "__main__":
    unittest.main()
