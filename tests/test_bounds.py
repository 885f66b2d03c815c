"""[22] to [25]: weights that bound a shape, the best bound, and what shows it."""

import random
import unittest
from fractions import Fraction

from crewlags.bounds import best_bound, check_bound, heaviest, too_heavy
from crewlags.errors import NoBound, NoDurations, NoWeights
from crewlags.lengths import least_time
from crewlags.shapes import Shape
from tests.support import (
    FOUR, THREE, allowed, fields, fraction, looped, no_rows, number, odd_values, ring_of_seven,
    side_by_side, some_amount, some_durations, some_shape, wrong_amounts,
)

GREAT = 10 ** 60
SHAPES = [some_shape(seed, many) for many in (1, 2, 3, 4, 5) for seed in range(25)]
HALVES = ((1, 2), (1, 2), (1, 2))
PAIRS = [((0, 1), (1, 2)), ((0, 2), (1, 2)), ((1, 2), (1, 2))]


def weight(some, weights):
    """The weight of a set, as a Fraction."""
    return sum(fraction(weights[a]) for a in some)


def some_weights(rnd, many):
    """Weights, the sums of which are about 1."""
    return tuple(number(Fraction(rnd.randint(0, 4), rnd.randint(2, 6))) for _ in range(many))


class Weights(unittest.TestCase):
    def test_against_the_words(self):
        rnd = random.Random(1)
        sizes = set()
        for shape in SHAPES:
            for _ in range(5):
                weights = some_weights(rnd, len(shape.names))
                sets = allowed(shape)
                heavy = [some for some in sets if weight(some, weights) > 1]
                self.assertEqual(too_heavy(shape, weights), heavy[0] if heavy else None)
                self.assertEqual(heaviest(shape, weights), number(max(weight(some, weights) for some in sets)))
                sizes.add(len(heavy[0]) if heavy else 0)
        self.assertLessEqual({0, 1, 2, 3}, sizes)

    def test_just_1_is_not_too_heavy(self):
        self.assertIsNone(too_heavy(THREE, HALVES))
        self.assertEqual(heaviest(THREE, HALVES), 1)
        self.assertEqual(too_heavy(THREE, ((1, 2), (1, 2), (GREAT + 1, 2 * GREAT + 1))), (0, 2))
        self.assertEqual(heaviest(THREE, ((1, 2), (1, 3), (1, 6))), (5, 6))
        self.assertIsNone(too_heavy(THREE, (1, 0, 0)))
        self.assertEqual(too_heavy(THREE, (0, 2, 0)), (1,))
        self.assertEqual(heaviest(THREE, (0, 0, 0)), 0)
        self.assertEqual(heaviest(THREE, (GREAT, (1, GREAT), 0)), (GREAT * GREAT + 1, GREAT))

    def test_the_first_of_several(self):
        self.assertEqual(too_heavy(THREE, (1, 1, 1)), (0, 1))
        self.assertEqual(too_heavy(THREE, ((1, 4), 1, 2)), (2,))
        self.assertEqual(too_heavy(FOUR, ((1, 2), 1, 1, (2, 3))), (0, 2))

    def test_weights_that_are_not_too_heavy_bound_the_least_time(self):
        rnd = random.Random(2)
        bounded = 0
        for shape in SHAPES:
            many = len(shape.names)
            weights = some_weights(rnd, many)
            heavy = too_heavy(shape, weights)
            if heavy is not None:
                durations = tuple(1 if a in heavy else 0 for a in range(many))
                self.assertEqual(least_time(shape, durations)[0], 1)
                self.assertGreater(sum(fraction(weights[a]) * durations[a] for a in range(many)), 1)
                continue
            bounded += 1
            durations = some_durations(rnd, many)
            told = sum(fraction(one) * fraction(other) for one, other in zip(weights, durations))
            self.assertLessEqual(told, fraction(least_time(shape, durations)[0]))
        self.assertGreater(bounded, 10)

    def test_seven(self):
        weights = ((1, 2),) * 7
        for most in range(1, 8):
            self.assertEqual(too_heavy(side_by_side(7, most), weights), (0, 1, 2) if most > 2 else None)
            self.assertEqual(heaviest(side_by_side(7, most), weights), number(Fraction(most, 2)))
        self.assertEqual(too_heavy(ring_of_seven(), weights), (0, 2, 4))

    def test_no_weights(self):
        wrong = no_rows() + [[1, 2, 3], [], (), "123", (1, 2), (1, 2, 3, 4), (None,) * 4, looped()]
        for value in wrong:
            self.refused(value, -1)
        for value in wrong_amounts():
            self.refused((value, 1, value), 0)
            self.refused((1, (1, 2), value), 2)

    def refused(self, weights, index):
        calls = [
            lambda: too_heavy(THREE, weights), lambda: heaviest(THREE, weights),
            lambda: check_bound(THREE, (1, 1, 1), ((3, 2), weights, None)),
        ]
        for call in calls:
            with self.assertRaises(NoWeights) as caught:
                call()
            self.assertEqual(fields(caught.exception), {"index": index})


class BestBound(unittest.TestCase):
    def check(self, shape, durations):
        value, weights, cover = best_bound(shape, durations)
        sets = allowed(shape)
        lengths = [fraction(duration) for duration in durations]
        self.assertIs(type(weights), tuple)
        self.assertEqual(len(weights), len(lengths))
        self.assertTrue(all(fraction(told) >= 0 for told in weights))
        self.assertTrue(all(weight(some, weights) <= 1 for some in sets))
        self.assertEqual(sum(fraction(told) * length for told, length in zip(weights, lengths)), fraction(value))
        self.assertIs(type(cover), list)
        for item in cover:
            self.assertIs(type(item), tuple)
            self.assertIn(item[0], sets)
            self.assertGreater(fraction(item[1]), 0)
        for a, length in enumerate(lengths):
            self.assertGreaterEqual(sum(fraction(amount) for some, amount in cover if a in some), length)
        self.assertEqual(sum(fraction(amount) for _, amount in cover), fraction(value))
        self.assertIsNone(check_bound(shape, durations, (value, weights, cover)))
        return fraction(value)

    def test_small_shapes(self):
        rnd = random.Random(3)
        less = 0
        for shape in SHAPES:
            for _ in range(2):
                durations = some_durations(rnd, len(shape.names))
                value, time = self.check(shape, durations), fraction(least_time(shape, durations)[0])
                self.assertLessEqual(value, time)
                less += value < time
        self.assertGreater(less, 2)

    def test_shapes_of_six_and_seven(self):
        rnd = random.Random(4)
        for seed in range(120):
            for many in (6, 7):
                self.check(some_shape(seed, many), tuple(rnd.randint(0, 9) for _ in range(many)))

    def test_it_is_the_least_time_on_an_allowed_set(self):
        for shape in SHAPES:
            for some in allowed(shape):
                durations = tuple(1 if a in some else 0 for a in range(len(shape.names)))
                self.assertEqual(best_bound(shape, durations)[0], 1)
                self.assertEqual(least_time(shape, durations)[0], 1)

    def test_it_grows_by_the_factor_of_the_durations(self):
        rnd = random.Random(5)
        for shape in SHAPES[::3]:
            durations = some_durations(rnd, len(shape.names))
            for factor in (2, Fraction(3, 7), GREAT):
                longer = tuple(number(fraction(duration) * factor) for duration in durations)
                told = fraction(best_bound(shape, longer)[0])
                self.assertEqual(told, fraction(best_bound(shape, durations)[0]) * factor)

    def test_durations_of_0(self):
        for shape in SHAPES:
            many = len(shape.names)
            value, weights, cover = best_bound(shape, (0,) * many)
            self.assertEqual((value, cover), (0, []))
            self.check(shape, (0,) * many)
            for a in range(many):
                durations = tuple((3, 2) if b == a else 0 for b in range(many))
                self.assertEqual(self.check(shape, durations), Fraction(3, 2))

    def test_seven(self):
        durations = (1, 2, 3, 4, 5, 6, 7)
        for most in range(1, 8):
            self.assertEqual(self.check(side_by_side(7, most), durations), max(Fraction(28, most), 7))
        self.assertEqual(self.check(ring_of_seven(), (1,) * 7), Fraction(7, 3))
        self.check(ring_of_seven(), durations)
        self.assertEqual(self.check(Shape(tuple("abcdefg")), durations), 7)

    def test_no_durations(self):
        wrong = no_rows() + [[1, 2, 3], [], (), "123", (1, 2), (1, 2, 3, 4), (None,) * 4, looped()]
        for value in wrong:
            self.refused(value, -1)
        for value in wrong_amounts():
            self.refused((value, 1, value), 0)
            self.refused((1, (1, 2), value), 2)

    def refused(self, durations, index):
        for call in (lambda: best_bound(THREE, durations), lambda: check_bound(THREE, durations, None)):
            with self.assertRaises(NoDurations) as caught:
                call()
            self.assertEqual(fields(caught.exception), {"index": index})

    def test_example(self):
        self.assertEqual(best_bound(THREE, (1, 1, 1))[:2], ((3, 2), HALVES))
        self.assertEqual(least_time(THREE, (1, 1, 1))[0], 2)


class CheckBound(unittest.TestCase):
    def test_it_lets_right_ones_by(self):
        self.assertIsNone(check_bound(THREE, (1, 1, 1), ((3, 2), HALVES, PAIRS)))
        self.assertIsNone(check_bound(THREE, (1, 1, 1), ((3, 2), HALVES, PAIRS[::-1])))
        self.assertIsNone(check_bound(Shape(("a",)), ((5, 2),), ((5, 2), (1,), [((0,), (5, 2))])))
        self.assertIsNone(check_bound(THREE, (0, 0, 0), (0, HALVES, [])))
        self.assertIsNone(check_bound(THREE, (0, 0, 0), (0, (1, 0, 0), [((0, 1), 0)])))
        self.assertIsNone(check_bound(THREE, (2, 2, 0), (2, (1, 0, 0), [((0, 1), 2)])))

    def test_sets_that_come_twice_and_amounts_of_0(self):
        cover = [((0, 1), (1, 4)), ((0,), 0), ((0, 2), (1, 2)), ((0, 1), (1, 4)), ((1, 2), (1, 2)), ((0, 1), 0)]
        self.assertIsNone(check_bound(THREE, (1, 1, 1), ((3, 2), HALVES, cover)))

    def test_more_than_the_duration_may_be_covered(self):
        self.assertIsNone(check_bound(THREE, (2, 1, 0), (2, (1, 0, 0), [((0, 1), 2)])))
        self.assertIsNone(check_bound(THREE, (2, 1, 0), (2, (1, 0, 0), [((0, 1), 1), ((0, 2), 1)])))

    def test_no_tuple_of_three_or_no_value(self):
        wrong = no_rows() + [
            [(3, 2), HALVES, PAIRS], ((3, 2), HALVES), ((3, 2), HALVES, PAIRS, 0), (), [], "abc", (None,) * 4, (None,),
        ]
        for bound in wrong:
            self.refused(bound, "bound", -1)
        for value in wrong_amounts():
            self.refused((value, None, None), "bound", -1)

    def test_weights_that_do_not_bound(self):
        self.refused(((3, 2), ((1, 2), (1, 2), (2, 3)), None), "weights", -1)
        self.refused(((3, 2), (2, 0, 0), PAIRS), "weights", -1)
        self.refused((2, (1, 1, 0), [((0, 1), 1), ((2,), 1)]), "weights", -1)

    def test_no_cover(self):
        for cover in no_rows() + [tuple(PAIRS), (), {}, "", {(0, 1): 1}]:
            self.refused(((3, 2), HALVES, cover), "cover", -1)
        items = odd_values() + [(), ((0, 1),), ((0, 1), 1, 1), [(0, 1), 1], "ab", b"ab", {0: 1, 1: 2}]
        for item in items:
            self.refused(((3, 2), HALVES, [item]), "cover", -1)
            self.refused(((3, 2), HALVES, [(None, None)] + PAIRS + [item]), "cover", -1)

    def test_the_first_that_is_no_allowed_set_with_an_amount(self):
        sets = odd_values() + [
            (), [0, 1], (1, 0), (0, 0), (0, True), (False,), (0, 1, 2), (3,), (0, 3), (-1, 0), 0, "01", (0, None),
        ]
        for some in sets:
            self.refused(((3, 2), HALVES, [(some, 1)]), "cover", 0)
            self.refused(((3, 2), HALVES, PAIRS + [(some, 0), (some, 0)]), "cover", 3)
        for amount in wrong_amounts():
            self.refused(((3, 2), HALVES, PAIRS[:2] + [((0, 1), amount), ((0, 1), amount)]), "cover", 2)

    def test_an_allowed_set_has_no_ordered_members(self):
        self.refused((2, (1, 1, 0, 0), [((0, 1), 1)]), "cover", 0, FOUR, (1, 1, 0, 0))

    def test_the_first_that_lacks(self):
        self.refused(((3, 2), HALVES, []), "lacks", 0)
        self.refused(((3, 2), HALVES, PAIRS[1:]), "lacks", 0)
        self.refused(((3, 2), HALVES, [PAIRS[0], PAIRS[0]]), "lacks", 2)
        self.refused(((3, 2), HALVES, PAIRS[:1] + PAIRS[2:] + [((0,), (1, 2))]), "lacks", 2)
        self.refused(((3, 2), HALVES, [((0, 1), (1, 2)), ((0, 2), (1, 2)), ((1, 2), (49, 100))]), "lacks", 1)

    def test_the_sum_of_the_weights(self):
        self.refused((1, HALVES, PAIRS), "value", 0)
        self.refused((2, HALVES, PAIRS + [((0,), (1, 2))]), "value", 0)
        self.refused(((3, 2), ((1, 2), (1, 2), (1, 3)), PAIRS), "value", 0)

    def test_the_sum_of_the_amounts(self):
        self.refused(((3, 2), HALVES, PAIRS + [((0,), (1, 2))]), "value", 1)
        self.refused((1, (1, 0, 0), PAIRS), "value", 1)

    def test_what_comes_first(self):
        heavy = ((1, 2), (1, 2), 1)
        self.refused((None, None, None), "bound", -1)
        self.refused((1, heavy, None), "weights", -1)
        self.refused((1, HALVES, [(None, 1), 5]), "cover", -1)
        self.refused((1, HALVES, [((0, 1), 1), (None, 1)]), "cover", 1)
        self.refused((1, HALVES, [((0, 1), 1)]), "lacks", 2)
        self.refused((1, HALVES, [((0, 1), 1), ((2,), 1)]), "value", 0)

    def test_each_small_change_of_a_best_bound(self):
        rnd = random.Random(6)
        seen = set()
        for shape in SHAPES[50:]:
            many = len(shape.names)
            durations = tuple(some_amount(rnd) for _ in range(many))
            value, weights, cover = best_bound(shape, durations)
            if value == 0:
                continue
            more = number(fraction(value) + Fraction(1, 7))
            a = next(a for a in range(many) if fraction(durations[a]) * fraction(weights[a]) > 0)
            lighter = weights[:a] + (0,) + weights[a + 1:]
            heavier = weights[:a] + (2,) + weights[a + 1:]
            rows = [(more, weights, cover), (value, lighter, cover), (value, heavier, cover), (value, weights, [])]
            rows += [(value, weights, cover[:-1]), (value, weights, cover + cover[-1:])]
            for bound in rows:
                with self.assertRaises(NoBound) as caught:
                    check_bound(shape, durations, bound)
                seen.add((caught.exception.part, caught.exception.index))
        self.assertLessEqual({("value", 0), ("value", 1), ("weights", -1), ("lacks", 0), ("lacks", 1)}, seen)

    def refused(self, bound, part, index, shape=THREE, durations=(1, 1, 1)):
        with self.assertRaises(NoBound) as caught:
            check_bound(shape, durations, bound)
        self.assertEqual(fields(caught.exception), {"part": part, "index": index})


class Alike(unittest.TestCase):
    def test_a_set_more_makes_a_bound_less_or_the_same(self):
        wide, narrow = side_by_side(4, 3), side_by_side(4, 2)
        rnd = random.Random(7)
        for _ in range(20):
            durations = some_durations(rnd, 4)
            self.assertLessEqual(fraction(best_bound(wide, durations)[0]), fraction(best_bound(narrow, durations)[0]))

    def test_no_weights_do_better(self):
        # for small shapes some best weights are halves, thirds or integers
        rows = [Fraction(top, bottom) for top, bottom in ((0, 1), (1, 3), (1, 2), (2, 3), (1, 1))]
        for seed in range(20):
            shape = some_shape(seed, 3)
            durations = some_durations(random.Random(seed), 3)
            lengths = [fraction(duration) for duration in durations]
            sets = allowed(shape)
            best = 0
            for one in rows:
                for two in rows:
                    for three in rows:
                        weights = (one, two, three)
                        if all(sum(weights[a] for a in some) <= 1 for some in sets):
                            best = max(best, sum(told * length for told, length in zip(weights, lengths)))
            self.assertEqual(fraction(best_bound(shape, durations)[0]), best)


if __name__ == "__main__":
    unittest.main()
