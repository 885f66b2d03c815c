"""[44] to [48]: calendars."""

import inspect
import random
import unittest

from crewlags import calendars
from crewlags.calendars import (
    Calendar, end_of, first_difference, is_work, latest_start, moved, next_work, turn_of, work_between,
)
from crewlags.errors import NoCalendar, NoNumber, NoShape
from tests.support import THREE, looped, no_rows, odd_values, raised

EXAMPLE = Calendar((True, True, True, False), changes=((1, False), (3, True)))
GREAT = 10 ** 50
FAR = 400
FUNCTIONS = {
    is_work: ("calendar", "slot"), next_work: ("calendar", "slot"), work_between: ("calendar", "start", "end"),
    end_of: ("calendar", "start", "work"), latest_start: ("calendar", "end", "work"),
    first_difference: ("calendar", "other"), turn_of: ("calendar",), moved: ("calendar", "many"),
}


def some_calendar(rnd, most=14, last=40):
    """A calendar; often without changes, with some that change nothing, with short cycles that repeat themselves."""
    cycle = [rnd.random() < rnd.choice((0.3, 0.7)) for _ in range(rnd.randint(1, most))]
    cycle[rnd.randrange(len(cycle))] = True
    if rnd.random() < 0.3:
        cycle = (cycle * 4)[:len(cycle) * rnd.randint(1, max(1, 14 // len(cycle)))]
    slots = sorted(rnd.sample(range(last), rnd.choice((0, 0, 1, 2, 5, 10))))
    return Calendar(cycle, changes=[(slot, rnd.random() < 0.5) for slot in slots])


def works(calendar, slot):
    """Whether a slot works, by the words of the document."""
    told = dict(calendar.changes)
    return told[slot] if slot in told else calendar.cycle[slot % len(calendar.cycle)]


def row(calendar, many=FAR):
    """Whether each of the first slots works."""
    return [works(calendar, slot) for slot in range(many)]


def slow_end(calendar, start, work):
    """The end, slot by slot."""
    if work == 0:
        return start
    if not works(calendar, start):
        return None
    slot, done = start, 0
    while True:
        done += works(calendar, slot)
        slot += 1
        if done == work:
            return slot


CALENDARS = [some_calendar(random.Random(seed)) for seed in range(60)] + [
    EXAMPLE, Calendar((True,)), Calendar((True,), changes=((0, False),)), Calendar((False,) * 13 + (True,)),
    Calendar((True,) * 14), Calendar((True, False), changes=tuple((slot, slot % 2 == 1) for slot in range(10))),
    Calendar((False, True), changes=((5, True), (7, True), (8, False))), Calendar((True, False, True, False)),
]


class Calendars(unittest.TestCase):
    def refused(self, part, index, cycle, **more):
        self.assertEqual(raised(lambda: Calendar(cycle, **more)), (NoCalendar, {"part": part, "index": index}))

    def test_attributes(self):
        for cycle in ((True,), (False, True), (True,) * 14, (False,) * 13 + (True,)):
            for kind in (list, tuple):
                calendar = Calendar(kind(cycle))
                self.assertEqual((calendar.cycle, calendar.changes), (cycle, ()))
                self.assertIs(type(calendar.cycle), tuple)
                self.assertIs(type(calendar.changes), tuple)
                changes = tuple((slot, slot % 3 == 0) for slot in range(0, 20, 2))
                calendar = Calendar(cycle=kind(cycle), changes=kind(changes))
                self.assertEqual((calendar.cycle, calendar.changes), (cycle, changes))
                self.assertIs(type(calendar.changes), tuple)
        self.assertEqual(Calendar([True], changes=[]).changes, ())
        self.assertEqual(sorted(vars(EXAMPLE)), ["changes", "cycle"])

    def test_lists_that_are_changed_later_change_nothing(self):
        cycle, changes = [True, False], [(3, True)]
        calendar = Calendar(cycle, changes=changes)
        cycle.append(True)
        changes.clear()
        self.assertEqual((calendar.cycle, calendar.changes), ((True, False), ((3, True),)))

    def test_changes_are_told_by_name_alone(self):
        with self.assertRaises(TypeError):
            Calendar((True,), ())
        signature = inspect.signature(Calendar)
        self.assertEqual(tuple(signature.parameters), ("cycle", "changes"))
        self.assertEqual(signature.parameters["changes"].kind, inspect.Parameter.KEYWORD_ONLY)
        self.assertEqual(signature.parameters["changes"].default, ())

    def test_equality_is_by_both_attributes(self):
        one = Calendar((True, False), changes=((3, True),))
        self.assertEqual(one, Calendar([True, False], changes=[(3, True)]))
        self.assertFalse(one != Calendar([True, False], changes=[(3, True)]))
        for other in (
            Calendar((True, False)), Calendar((False, True), changes=((3, True),)),
            Calendar((True, False), changes=((3, False),)), Calendar((True, False), changes=((1, True),)),
            Calendar((True, False, True, False), changes=((3, True),)),
        ):
            self.assertNotEqual(one, other)
            self.assertNotEqual(other, one)
        # the same slots work, but not by the same attributes
        self.assertNotEqual(Calendar((True,)), Calendar((True, True)))
        self.assertNotEqual(Calendar((True,)), Calendar((True,), changes=((3, True),)))

    def test_equal_to_nothing_of_another_kind(self):
        for value in odd_values() + [EXAMPLE.cycle, vars(EXAMPLE), (EXAMPLE.cycle, EXAMPLE.changes), THREE]:
            self.assertIs(EXAMPLE == value, False)
            self.assertIs(EXAMPLE != value, True)
            self.assertIs(value == EXAMPLE, False)

    def test_no_cycle(self):
        for value in no_rows() + [[], (), [True] * 15, (True,) * 15, (None,) * 15, "", "abc", {True: 1}, {True}]:
            self.refused("cycle", -1, value)
            self.refused("cycle", -1, value, changes=None)

    def test_the_first_item_of_a_cycle_that_is_no_bool(self):
        for value in odd_values() + [0, 1, 2, "True", (True,), [True]]:
            if value is True or value is False:
                continue
            self.refused("cycle", 0, (value,))
            self.refused("cycle", 0, [value, value])
            self.refused("cycle", 2, (False, True, value, True, None))
            self.refused("cycle", 13, [True] * 13 + [value])
            # a cycle in which nothing works is told behind its items
            self.refused("cycle", 1, (False, value))

    def test_a_cycle_in_which_nothing_works(self):
        for many in range(1, 15):
            self.refused("cycle", -1, (False,) * many)
            self.refused("cycle", -1, [False] * many, changes=((3, True),))
            self.refused("cycle", -1, [False] * many, changes=None)

    def test_no_changes(self):
        eleven = tuple((slot, True) for slot in range(11))
        for value in no_rows() + [eleven, list(eleven), (None,) * 11, {(1, True): 1}, {(1, True)}, "x"]:
            self.refused("changes", -1, (True,), changes=value)
        self.assertEqual(Calendar((True,), changes=eleven[1:]).changes, eleven[1:])

    def test_the_first_change_that_is_none(self):
        wrong = odd_values() + [
            [5, True], (5,), (5, True, True), (), (True, True), (False, True), (-1, True), (5, 1), (5, 0), (5, None),
            (None, True), ("5", True), (5, "x"), ((5,), True), (5, [True]), (-GREAT, False), {5: True, 6: True},
        ]
        for value in wrong:
            self.refused("changes", 0, (True,), changes=(value,))
            self.refused("changes", 0, (True,), changes=[value, None])
            self.refused("changes", 2, (True,), changes=[(1, True), (2, False), value, (1, True)])

    def test_slots_that_do_not_ascend(self):
        self.refused("changes", 1, (True,), changes=((3, True), (3, True)))
        self.refused("changes", 1, (True,), changes=((3, True), (3, False), (2, True)))
        self.refused("changes", 2, (True,), changes=((3, True), (5, False), (4, True), (4, True)))
        self.refused("changes", 3, (True,), changes=((0, True), (1, False), (2, True), (0, True)))
        self.refused("changes", 1, (True,), changes=((GREAT, True), (GREAT - 1, True)))
        told = ((0, False), (GREAT, True), (GREAT + 1, False))
        self.assertEqual(Calendar((True,), changes=told).changes, told)

    def test_changes_that_change_nothing(self):
        one = Calendar((True, False), changes=((0, True), (3, False)))
        self.assertEqual(one.changes, ((0, True), (3, False)))
        self.assertEqual([is_work(one, slot) for slot in range(6)], [True, False] * 3)


class Functions(unittest.TestCase):
    def test_parameters(self):
        for function, names in FUNCTIONS.items():
            signature = inspect.signature(function)
            self.assertEqual(tuple(signature.parameters), names)
            self.assertEqual(function.__module__, "crewlags.calendars")
            for parameter in signature.parameters.values():
                self.assertIs(parameter.default, parameter.empty)
                self.assertEqual(parameter.kind, parameter.POSITIONAL_OR_KEYWORD)
        self.assertEqual(Calendar.__module__, calendars.__name__)

    def test_no_calendar(self):
        for value in odd_values() + [(True,), (), NoShape("a", 1), Calendar]:
            if isinstance(value, Calendar):
                continue
            for function, names in FUNCTIONS.items():
                for others in (3, None, EXAMPLE, value):
                    told = (NoCalendar, {"part": "calendar", "index": -1})
                    self.assertEqual(raised(lambda: function(value, *[others] * (len(names) - 1))), told)
            told = (NoCalendar, {"part": "other", "index": -1})
            self.assertEqual(raised(lambda: first_difference(EXAMPLE, value)), told)

    def test_no_number(self):
        wrong = [value for value in odd_values() if value != 10 ** 30] + [EXAMPLE, (1, 2), "3", b"3", [3], -GREAT, True]
        for value in wrong:
            for function, names in FUNCTIONS.items():
                if names[1:] in ((), ("other",)):
                    continue
                for at, name in enumerate(names[1:]):
                    given = [7] * (len(names) - 1)
                    given[at:] = [value] * (len(given) - at)
                    told = (NoNumber, {"part": name})
                    self.assertEqual(raised(lambda: function(EXAMPLE, *given)), told)
                    self.assertEqual(raised(lambda: function(EXAMPLE, **dict(zip(names[1:], given)))), told)

    def test_arguments_are_not_changed_and_results_are_equal(self):
        kept = (EXAMPLE.cycle, EXAMPLE.changes)
        for function, names in FUNCTIONS.items():
            given = [EXAMPLE if name == "other" else 4 for name in names[1:]]
            self.assertEqual(function(EXAMPLE, *given), function(EXAMPLE, *given))
            self.assertEqual((EXAMPLE.cycle, EXAMPLE.changes), kept)


class Work(unittest.TestCase):
    def test_slot_by_slot(self):
        for calendar in CALENDARS:
            told = row(calendar)
            for slot in range(0, 120):
                self.assertIs(is_work(calendar, slot), told[slot])
                self.assertEqual(next_work(calendar, slot), slot + told[slot:].index(True))
            for start in range(0, 70, 7):
                for end in range(0, 140, 3):
                    self.assertEqual(work_between(calendar, start, end), sum(told[start:end]))
                    self.assertEqual(work_between(calendar, start, start + end % 7), sum(told[start:start + end % 7]))

    def test_start_above_end(self):
        for start, end in ((1, 0), (5, 4), (GREAT, 3), (7, 7), (GREAT, GREAT)):
            self.assertEqual(work_between(EXAMPLE, start, end), 0)

    def test_very_great(self):
        self.assertEqual(next_work(EXAMPLE, 4 * GREAT + 3), 4 * GREAT + 4)
        self.assertEqual(next_work(EXAMPLE, 4 * GREAT + 2), 4 * GREAT + 2)
        self.assertIs(is_work(EXAMPLE, 4 * GREAT + 3), False)
        self.assertEqual(work_between(EXAMPLE, 0, 4 * GREAT), 3 * GREAT)
        self.assertEqual(work_between(EXAMPLE, 2, 4 * GREAT + 3), 3 * GREAT + 3 - 1)
        far = Calendar((True, False), changes=((2 * GREAT, False), (2 * GREAT + 1, True), (6 * GREAT + 1, True)))
        self.assertEqual(next_work(far, 2 * GREAT - 1), 2 * GREAT + 1)
        self.assertEqual(work_between(far, 0, 8 * GREAT), 4 * GREAT + 1)
        self.assertEqual(work_between(far, 2 * GREAT, 2 * GREAT + 2), 1)
        self.assertIs(is_work(far, 6 * GREAT + 1), True)

    def test_example(self):
        self.assertEqual([slot for slot in range(11) if is_work(EXAMPLE, slot)], [0, 2, 3, 4, 5, 6, 8, 9, 10])


class Ends(unittest.TestCase):
    def test_slot_by_slot(self):
        for calendar in CALENDARS:
            for start in range(0, 60):
                for work in (0, 1, 2, 3, 7, 12):
                    self.assertEqual(end_of(calendar, start, work), slow_end(calendar, start, work))

    def test_latest_start_slot_by_slot(self):
        for calendar in CALENDARS[::2]:
            for work in (0, 1, 2, 5, 9):
                ends = [slow_end(calendar, start, work) for start in range(75)]
                for end in range(70):
                    good = [start for start, told in enumerate(ends) if told is not None and told <= end]
                    self.assertEqual(latest_start(calendar, end, work), good[-1] if good else None)

    def test_facts(self):
        for calendar in CALENDARS:
            for work in (1, 2, 6):
                last = -1
                for start in range(90):
                    end = end_of(calendar, start, work)
                    if end is not None:
                        self.assertGreater(end, last)
                        self.assertEqual(latest_start(calendar, end, work), start)
                        self.assertEqual(work_between(calendar, start, end), work)
                        last = end
            for start in range(20):
                self.assertEqual(end_of(calendar, start, 0), start)
                self.assertEqual(latest_start(calendar, start, 0), start)

    def test_a_start_that_does_not_work(self):
        self.assertIsNone(end_of(EXAMPLE, 1, 1))
        self.assertIsNone(end_of(EXAMPLE, 4 * GREAT + 3, GREAT))
        self.assertEqual(end_of(EXAMPLE, 1, 0), 1)
        self.assertEqual(end_of(EXAMPLE, 4 * GREAT + 3, 0), 4 * GREAT + 3)

    def test_ends_by_which_no_so_much_is_done(self):
        self.assertIsNone(latest_start(EXAMPLE, 0, 1))
        self.assertIsNone(latest_start(EXAMPLE, 2, 2))
        self.assertEqual(latest_start(EXAMPLE, 3, 2), 0)
        self.assertEqual(latest_start(EXAMPLE, 0, 0), 0)
        self.assertIsNone(latest_start(Calendar((True,), changes=((0, False),)), 1, 1))
        self.assertIsNone(latest_start(EXAMPLE, GREAT, GREAT))
        self.assertIsNone(latest_start(EXAMPLE, 4 * GREAT, 3 * GREAT + 1))
        self.assertEqual(latest_start(EXAMPLE, 4 * GREAT, 3 * GREAT), 0)

    def test_very_great(self):
        self.assertEqual(end_of(EXAMPLE, 0, 3 * GREAT), 4 * GREAT - 1)
        self.assertEqual(end_of(EXAMPLE, 4 * GREAT, 3 * GREAT), 8 * GREAT - 1)
        self.assertEqual(latest_start(EXAMPLE, 8 * GREAT - 1, 3 * GREAT), 4 * GREAT)
        far = Calendar((True, False), changes=((2 * GREAT, False), (2 * GREAT + 1, True), (6 * GREAT + 1, True)))
        # up to the first change so many slots work, then the one that is told to
        self.assertEqual(end_of(far, 0, GREAT), 2 * GREAT - 1)
        self.assertEqual(end_of(far, 0, GREAT + 1), 2 * GREAT + 2)
        self.assertEqual(end_of(far, 0, GREAT + 2), 2 * GREAT + 3)
        self.assertEqual(latest_start(far, 2 * GREAT + 2, GREAT + 1), 0)
        self.assertEqual(latest_start(far, 2 * GREAT + 1, 1), 2 * GREAT - 2)
        huge = 7 ** 4000
        for calendar in CALENDARS:
            start = next_work(calendar, huge)
            self.assertLess(start - huge, 15)
            end = end_of(calendar, start, huge)
            self.assertEqual(work_between(calendar, start, end), huge)
            self.assertTrue(is_work(calendar, end - 1))
            self.assertEqual(latest_start(calendar, end, huge), start)

    def test_example(self):
        self.assertEqual(end_of(EXAMPLE, 0, 3), 4)
        self.assertEqual(latest_start(EXAMPLE, 8, 2), 5)


class Differences(unittest.TestCase):
    def test_slot_by_slot(self):
        seen = set()
        for one in CALENDARS:
            for other in CALENDARS[::3]:
                told = [slot for slot in range(FAR) if works(one, slot) != works(other, slot)]
                self.assertEqual(first_difference(one, other), told[0] if told else None)
                self.assertEqual(first_difference(other, one), told[0] if told else None)
                seen.add(told[0] if told else None)
        self.assertLessEqual({None, 0, 1, 2, 3, 4, 5}, seen)

    def test_in_a_change_alone(self):
        one = Calendar((True, False))
        self.assertEqual(first_difference(one, Calendar((True, False), changes=((GREAT, GREAT % 2 == 1),))), GREAT)
        self.assertIsNone(first_difference(one, Calendar((True, False), changes=((GREAT, GREAT % 2 == 0),))))
        both = ((3, True), (9, True))
        self.assertEqual(
            first_difference(Calendar((True, False), changes=both), Calendar((True, False), changes=both[1:])), 3
        )

    def test_behind_all_changes_alone(self):
        thirteen, fourteen = (True,) * 12 + (False,), (True,) * 14
        told = tuple((slot, True) for slot in range(12, 13 * 10, 13))
        self.assertEqual(len(told), 10)
        self.assertEqual(first_difference(Calendar(thirteen, changes=told), Calendar(fourteen)), 12 + 13 * 10)
        # the cycles first differ behind a change that is far away, and far behind it
        one = Calendar((True,) * 13 + (False,), changes=((13, True), (27, True)))
        self.assertEqual(first_difference(one, Calendar((True,))), 41)
        one = Calendar((True,) * 11 + (False,), changes=((11, True), (GREAT * 12 + 5, True)))
        self.assertEqual(first_difference(one, Calendar((True,) * 13)), 23)

    def test_never_although_their_cycles_are_of_unlike_lengths(self):
        self.assertIsNone(first_difference(Calendar((True, False)), Calendar((True, False) * 7)))
        self.assertIsNone(first_difference(Calendar((True, False) * 2), Calendar((True, False) * 3)))
        self.assertIsNone(first_difference(Calendar((True,) * 13), Calendar((True,) * 14)))
        self.assertIsNone(first_difference(Calendar((True,)), Calendar((True,) * 5, changes=((3, True), (GREAT, True)))))
        self.assertEqual(first_difference(Calendar((True,) * 13), Calendar((True,) * 13 + (False,))), 13)

    def test_with_itself(self):
        for calendar in CALENDARS:
            self.assertIsNone(first_difference(calendar, calendar))


class Turns(unittest.TestCase):
    def slow_turn(self, calendar):
        """What turn_of has to tell, for calendars whose changes end soon."""
        told = row(calendar)
        behind = max([slot + 1 for slot, _ in calendar.changes], default=0)
        period = next(p for p in range(1, 15) if all(told[t] == told[t + p] for t in range(behind, behind + 200)))
        unlike = [slot for slot in range(FAR - 20) if told[slot] != told[slot + period]]
        return (unlike[-1] + 1 if unlike else 0), period

    def test_slot_by_slot(self):
        seen = set()
        for calendar in CALENDARS:
            told = self.slow_turn(calendar)
            self.assertEqual(turn_of(calendar), told)
            last = calendar.changes[-1][0] if calendar.changes else -1
            seen.add((told[1] < len(calendar.cycle), told[0] == 0, told[0] <= last))
        self.assertGreater(len(seen), 5)

    def test_the_least_period(self):
        self.assertEqual(turn_of(Calendar((True,) * 14)), (0, 1))
        self.assertEqual(turn_of(Calendar((True, False) * 7)), (0, 2))
        self.assertEqual(turn_of(Calendar((True, False, False) * 4)), (0, 3))
        self.assertEqual(turn_of(Calendar((True, True, False, True, True))), (0, 5))
        self.assertEqual(turn_of(Calendar((True, False, True))), (0, 3))

    def test_the_least_slot(self):
        self.assertEqual(turn_of(Calendar((True, False), changes=((4, False),))), (5, 2))
        self.assertEqual(turn_of(Calendar((True, False), changes=((4, True),))), (0, 2))
        # the last change changes nothing, and the one ahead of it something
        self.assertEqual(turn_of(Calendar((True, False), changes=((4, False), (9, False), (GREAT * 2, True)))), (5, 2))
        self.assertEqual(turn_of(Calendar((True,), changes=((GREAT, False),))), (GREAT + 1, 1))
        self.assertEqual(turn_of(Calendar((True,), changes=((0, False),))), (1, 1))
        self.assertEqual(turn_of(Calendar((True,), changes=((0, False), (1, False), (2, False)))), (3, 1))

    def test_example(self):
        self.assertEqual(turn_of(EXAMPLE), (4, 4))


class Moved(unittest.TestCase):
    def test_slot_by_slot(self):
        for calendar in CALENDARS:
            for many in (0, 1, 2, 5, 13, 14, 15, 39, 40, 41, 100, 183):
                other = moved(calendar, many)
                self.assertIs(type(other), Calendar)
                self.assertEqual(row(other, 120), row(calendar, many + 120)[many:])
                # it keeps the limits: it can be told anew
                self.assertEqual(Calendar(other.cycle, changes=other.changes), other)

    def test_by_much(self):
        for calendar in CALENDARS:
            many = 7 ** 200
            other = moved(calendar, many)
            self.assertEqual([is_work(other, slot) for slot in range(30)],
                             [is_work(calendar, many + slot) for slot in range(30)])
            self.assertIsNone(first_difference(other, Calendar(other.cycle)))

    def test_by_0_and_beyond_changes(self):
        far = Calendar((True, False, False), changes=((2, True), (3 * GREAT, False)))
        self.assertIsNone(first_difference(moved(far, 0), far))
        other = moved(far, 3 * GREAT - 2)
        self.assertEqual(row(other, 8), [False, False, False, False, False, True, False, False])
        self.assertEqual(first_difference(other, moved(Calendar((True, False, False)), 1)), 2)
        other = moved(far, 3 * GREAT)
        self.assertEqual(row(other, 4), [False, False, False, True])
        self.assertIsNone(first_difference(moved(far, 3 * GREAT + 1), Calendar((False, False, True))))

    def test_the_same_calendar_is_left_as_it_was(self):
        calendar = Calendar((True, False), changes=((1, True),))
        moved(calendar, 1)
        self.assertEqual(calendar, Calendar((True, False), changes=((1, True),)))

    def test_moved_on_and_on(self):
        for calendar in CALENDARS[::4]:
            for one, other in ((1, 4), (7, 30), (14, 0)):
                both = moved(moved(calendar, one), other)
                self.assertIsNone(first_difference(both, moved(calendar, one + other)))


class Odd(unittest.TestCase):
    def test_no_endless_list(self):
        self.assertEqual(raised(lambda: Calendar(looped())), (NoCalendar, {"part": "cycle", "index": 0}))
        self.assertEqual(
            raised(lambda: Calendar((True,), changes=looped())), (NoCalendar, {"part": "changes", "index": 0})
        )


if __name__ == "__main__":
    unittest.main()
