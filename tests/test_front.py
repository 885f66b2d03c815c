"""[60], [61], [62], [63]: trade-offs, the shortest and the cheapest plan, what time buys, and their facts."""

import inspect
import random
import unittest

from crewlags.calendars import Calendar
from crewlags.errors import NoNumber, NoProject
from crewlags.front import cheapest, cost_curve, shortest, trade_offs
from crewlags.plans import account, plan_faults
from crewlags.projects import Project
from tests.project_support import all_accounts, drawn, drawn_project, every_choice, some_calendar, some_lag
from tests.support import odd_values, raised

SEEDS = range(300)
FIRST = ((2, (1,), (2,), 1), (4, (1,), (0,), 1))
SECOND = ((3, (1,), (1,), 0), (5, (0,), (1,), 4))
EXAMPLE = Project(("a", "b"), 20, (1,), (3,), (FIRST, SECOND), overhead=1)


def flat(told):
    """An account as one tuple of numbers."""
    return (told[0], told[1]) + told[2]


def beats(one, other):
    """Whether an account beats another one."""
    return one != other and all(left <= right for left, right in zip(flat(one), flat(other)))


def slow_curve(accounts):
    """What cost_curve has to tell for the accounts of all plans that keep a project."""
    curve = []
    for time in sorted({told[0] for told in accounts}):
        least = min(told[1] for told in accounts if told[0] <= time)
        if not curve or least < curve[-1][1]:
            curve.append((time, least))
    return curve


def parts_of(project):
    """The parts of a project by their names."""
    return dict(vars(project))


class TradeOffs(unittest.TestCase):
    def test_against_a_search_through_all_choices_and_starts(self):
        none = several = with_stocks = 0
        for seed in SEEDS:
            project, plans = drawn(seed), all_accounts(seed)
            told = trade_offs(project)
            self.assertIs(type(told), list)
            right = sorted(one for one in plans if not any(beats(other, one) for other in plans))
            self.assertEqual([row[0] for row in told], right)
            for reached, choice, starts in told:
                self.assertIn((choice, starts), plans[reached])
                self.assertEqual(plan_faults(project, choice, starts), [])
                self.assertEqual(account(project, choice, starts), reached)
                self.assertIs(type(starts), tuple)
                self.assertIs(type(choice), tuple)
            none += not told
            several += len(told) > 1
            with_stocks += len({row[0][2] for row in told}) > 1
        self.assertGreater(none, 30)
        self.assertGreater(several, 30)
        self.assertGreater(with_stocks, 15)

    def test_example(self):
        self.assertEqual([row[0] for row in trade_offs(EXAMPLE)], [(5, 6, (3,)), (5, 10, (1,)), (7, 8, (1,))])
        self.assertEqual(cost_curve(EXAMPLE), [(5, 6)])
        self.assertEqual(cheapest(EXAMPLE, most=6)[0], 6)

    def test_no_plan_keeps_it(self):
        modes = (((4, (1,), (), 0),), ((4, (1,), (), 0),))
        project = Project(("a", "b"), 7, (1,), (), modes)
        self.assertEqual(trade_offs(project), [])
        self.assertEqual(cost_curve(project), [])
        self.assertIsNone(shortest(project))
        self.assertIsNone(cheapest(project))
        later = Project(("a", "b"), 8, (1,), (), modes)
        self.assertEqual([row[0] for row in trade_offs(later)], [(8, 0, ())])
        over = Project(("a",), 9, (), (4,), (((1, (), (5,), 0),),))
        self.assertEqual(trade_offs(over), [])
        self.assertEqual([row[0] for row in trade_offs(Project(("a",), 9, (), (5,), (((1, (), (5,), 0),),)))], [(1, 0, (5,))])

    def test_equal_accounts_are_told_once(self):
        mode = (2, (), (1,), 3)
        project = Project(("a", "b"), 9, (), (9,), ((mode, mode, mode), (mode, (1, (), (1,), 3))))
        self.assertEqual([row[0] for row in trade_offs(project)], [(2, 6, (2,))])

    def test_who_is_late_pays_by_the_order(self):
        # the longer one is due early, so it has to come first to be cheap, and last to be short by its set-up
        modes = (((3, (), (), 0),), ((2, (), (), 0),))
        single = ((0, 1), ((0, 4), (1, 0)))
        project = Project(("a", "b"), 20, (), (), modes, families=(0, 1), singles=(single,), late=((3, 5), None))
        self.assertEqual([row[0] for row in trade_offs(project)], [(6, 15, ()), (9, 0, ())])
        self.assertEqual(cost_curve(project), [(6, 15), (9, 0)])
        self.assertEqual(shortest(project, cost=14)[0], 9)
        self.assertEqual(cheapest(project, most=8)[0], 15)
        # the overhead takes it back
        dear = Project(("a", "b"), 20, (), (), modes, families=(0, 1), singles=(single,), late=((3, 5), None), overhead=5)
        self.assertEqual([row[0] for row in trade_offs(dear)], [(6, 45, ())])
        self.assertEqual(cost_curve(dear), [(6, 45)])

    def test_the_times_of_the_curve_are_not_those_of_the_trade_offs(self):
        modes = (((2, (), (3,), 9), (4, (), (2,), 9), (6, (), (1,), 4)),)
        project = Project(("a",), 20, (), (5,), modes)
        self.assertEqual([row[0] for row in trade_offs(project)], [(2, 9, (3,)), (4, 9, (2,)), (6, 4, (1,))])
        self.assertEqual(cost_curve(project), [(2, 9), (6, 4)])

    def test_a_list_of_its_own(self):
        trade_offs(EXAMPLE).clear()
        cost_curve(EXAMPLE).clear()
        self.assertEqual(len(trade_offs(EXAMPLE)), 3)
        self.assertEqual(len(cost_curve(EXAMPLE)), 1)


class ShortestAndCheapest(unittest.TestCase):
    def test_shortest_against_the_search(self):
        seen = set()
        for seed in SEEDS:
            project, plans = drawn(seed), all_accounts(seed)
            costs = sorted({told[1] for told in plans})
            limits = [None, 0, 1000] + [cost + by for cost in costs[:4] + costs[-1:] for by in (-1, 0, 1) if cost + by >= 0]
            for cost in limits:
                times = [told[0] for told in plans if cost is None or told[1] <= cost]
                best = shortest(project, cost=cost)
                self.assertEqual(best is None, not times)
                if times:
                    time, choice, starts = best
                    reached = account(project, choice, starts)
                    self.assertEqual((time, time), (min(times), reached[0]))
                    self.assertIn((choice, starts), plans[reached])
                    self.assertTrue(cost is None or reached[1] <= cost)
                seen.add((cost is None, best is None, bool(times) and min(times) > min(told[0] for told in plans)))
            self.assertEqual(shortest(project), shortest(project, cost=None))
        self.assertEqual(len(seen), 5)

    def test_cheapest_against_the_search(self):
        seen = set()
        for seed in SEEDS:
            project, plans = drawn(seed), all_accounts(seed)
            for most in (None, *range(project.horizon + 2), 10 ** 30):
                costs = [told[1] for told in plans if most is None or told[0] <= most]
                best = cheapest(project, most=most)
                self.assertEqual(best is None, not costs)
                if costs:
                    cost, choice, starts = best
                    reached = account(project, choice, starts)
                    self.assertEqual((cost, cost), (min(costs), reached[1]))
                    self.assertIn((choice, starts), plans[reached])
                    self.assertTrue(most is None or reached[0] <= most)
                seen.add((most is None, best is None, bool(costs) and min(costs) > min(told[1] for told in plans)))
            self.assertEqual(cheapest(project), cheapest(project, most=None))
        self.assertEqual(len(seen), 5)

    def test_curve_against_the_search(self):
        longer = 0
        for seed in SEEDS:
            told = cost_curve(drawn(seed))
            self.assertIs(type(told), list)
            self.assertEqual(told, slow_curve(all_accounts(seed)))
            longer += len(told) > 1
        self.assertGreater(longer, 20)

    def test_at_below_and_above_what_can_be_had(self):
        self.assertEqual([shortest(EXAMPLE, cost=cost) is None for cost in (0, 5, 6, 7)], [True, True, False, False])
        self.assertEqual([cheapest(EXAMPLE, most=most) is None for most in (0, 4, 5, 6)], [True, True, False, False])
        self.assertEqual(shortest(EXAMPLE, cost=6)[0], 5)
        self.assertEqual(cheapest(EXAMPLE)[0], 6)


class Facts(unittest.TestCase):
    def test_least_time_least_cost_and_the_last_pair(self):
        for seed in SEEDS:
            project = drawn(seed)
            told = [row[0] for row in trade_offs(project)]
            if told:
                self.assertEqual(min(one[0] for one in told), shortest(project)[0])
                self.assertEqual(min(one[1] for one in told), cheapest(project)[0])
                self.assertEqual(cost_curve(project)[-1][1], cheapest(project)[0])
                self.assertEqual(cost_curve(project)[0][0], shortest(project)[0])

    def wider(self, rnd, project):
        """Wider projects, each with what was widened."""
        parts = parts_of(project)
        rows = [("horizon", {"horizon": project.horizon + rnd.randint(1, 3)})]
        for at in range(len(project.machines)):
            machines = list(project.machines)
            machines[at] += 1
            rows.append(("machine", {"machines": machines}))
        for at in range(len(project.stocks)):
            stocks = list(project.stocks)
            stocks[at] += 1
            rows.append(("stock", {"stocks": stocks}))
        for at in range(len(project.lags)):
            rows.append(("lag", {"lags": project.lags[:at] + project.lags[at + 1:]}))
        for at in range(len(project.singles)):
            rows.append(("single", {"singles": project.singles[:at] + project.singles[at + 1:]}))
        mode = (rnd.randint(0, 3), (0,) * len(project.machines), (1,) * len(project.stocks), rnd.randint(0, 5))
        rows.append(("mode", {"modes": (project.modes[0] + (mode,),) + project.modes[1:]}))
        return [(word, Project(**{**parts, **told})) for word, told in rows]

    def test_a_wider_project(self):
        beaten = {}
        for seed in range(200):
            project = drawn(seed)
            told = [row[0] for row in trade_offs(project)]
            for word, other in self.wider(random.Random(seed), project):
                now = [row[0] for row in trade_offs(other)]
                for one in told:
                    self.assertTrue(one in now or any(beats(better, one) for better in now), (seed, word))
                beaten[word] = beaten.get(word, 0) + (now != told)
        self.assertEqual(set(beaten), {"horizon", "machine", "stock", "lag", "single", "mode"})
        self.assertGreater(min(beaten.values()), 1, beaten)

    def test_trade_offs_do_not_beat_one_another(self):
        for seed in range(300, 360):
            told = [row[0] for row in trade_offs(drawn_project(random.Random(seed), 4, 14, choices=3))]
            self.assertEqual(told, sorted(told))
            self.assertFalse(any(beats(one, other) for one in told for other in told))
            self.assertEqual(len(told), len(set(told)))


def great_project(seed):
    """A project of five activities with three modes each and a horizon of 60."""
    rnd = random.Random(seed)
    machines = ((2,), (1,), (3, 5), (2, 3, 4))[seed % 4]

    def mode():
        demands = tuple(rnd.randint(1, capacity) if len(machines) > 1 else 1 for capacity in machines)
        return rnd.randint(2, 12), demands, (rnd.randint(0, 9), rnd.randint(0, 9)), rnd.randint(0, 90)

    modes = tuple(tuple(mode() for _ in range(3)) for _ in range(5))
    families = tuple(rnd.randint(0, 2) for _ in range(5))
    table = tuple(tuple(rnd.randint(0, 5) for _ in range(max(families) + 1)) for _ in range(max(families) + 1))
    crew = (("x", "y"), ("x",), ("y", "z"), ("z", "x"))
    asks = ((("x", 1), ("y", 1)), (("z", 2),), (("y", 2),), (("x", 1),), (("z", 1), ("x", 1)))
    return Project(
        tuple("abcde"), 60, machines, (25, 30), modes, families=families, singles=(((0, 2, 3), table),),
        lags=[some_lag(rnd, 5) for _ in range(seed % 3)], crew=crew, asks=asks, overhead=rnd.randint(0, 20),
        calendars=[some_calendar(rnd) for _ in range(5)] if seed % 2 else (),
        late=[(rnd.randint(5, 40), rnd.randint(0, 20)) for _ in range(5)],
    )


class Great(unittest.TestCase):
    def test_five_activities_with_three_modes_each(self):
        for seed in range(8):
            project = great_project(seed)
            told = trade_offs(project)
            curve = cost_curve(project)
            for reached, choice, starts in told:
                self.assertEqual(plan_faults(project, choice, starts), [])
                self.assertEqual(account(project, choice, starts), reached)
            if told:
                self.assertEqual(curve, slow_curve([row[0] for row in told]))
                self.assertEqual(shortest(project)[0], curve[0][0])
                self.assertEqual(shortest(project, cost=curve[-1][1])[0], curve[-1][0])
                self.assertEqual(cheapest(project)[0], curve[-1][1])
                self.assertEqual(cheapest(project, most=curve[0][0])[0], curve[0][1])
                self.assertIsNone(cheapest(project, most=curve[0][0] - 1))
                self.assertIsNone(shortest(project, cost=curve[-1][1] - 1))

    def test_one_at_a_time(self):
        works = (7, 5, 6, 3, 9)
        modes = tuple(((work, (1,), (), 0), (work + 1, (1,), (), 0), (work + 2, (1,), (), 0)) for work in works)
        project = Project(tuple("abcde"), 60, (1,), (), modes, late=[(20, 1)] * 5)
        told = trade_offs(project)
        # in the order of their lengths the sum of the ends is the least: 3, 8, 14, 21, 30
        self.assertEqual([row[0] for row in told], [(30, 1 + 10, ())])
        self.assertEqual(cost_curve(project), [(30, 11)])

    def test_slots_that_do_not_work(self):
        week = Calendar((True, True, True, True, True, False, False))
        modes = tuple(((4, (1,), (), 0),) for _ in range(5))
        project = Project(tuple("abcde"), 60, (2,), (), modes, calendars=(week,) * 5)
        time, choice, starts = shortest(project)
        self.assertEqual(plan_faults(project, choice, starts), [])
        self.assertEqual(time, 16)


class Errors(unittest.TestCase):
    def test_parameters(self):
        for function, names in (
            (trade_offs, ("project",)), (cost_curve, ("project",)), (shortest, ("project", "cost")),
            (cheapest, ("project", "most")),
        ):
            signature = inspect.signature(function)
            self.assertEqual(tuple(signature.parameters), names)
            for name in names[1:]:
                self.assertEqual(signature.parameters[name].kind, inspect.Parameter.KEYWORD_ONLY)
                self.assertIsNone(signature.parameters[name].default)

    def test_no_project(self):
        for value in odd_values() + [(), [], Project]:
            if not isinstance(value, Project):
                told = (NoProject, {"part": "project", "index": -1})
                for call in (trade_offs, cost_curve, shortest, cheapest):
                    self.assertEqual(raised(lambda: call(value)), told)
                self.assertEqual(raised(lambda: shortest(value, cost=-1)), told)
                self.assertEqual(raised(lambda: cheapest(value, most=-1)), told)

    def test_no_number(self):
        for value in odd_values() + [-1, "6", (6,), [6], (1, 2), True, False]:
            if value is not None and value != 10 ** 30:
                self.assertEqual(raised(lambda: shortest(EXAMPLE, cost=value)), (NoNumber, {"part": "cost"}))
                self.assertEqual(raised(lambda: cheapest(EXAMPLE, most=value)), (NoNumber, {"part": "most"}))

    def test_great_limits(self):
        self.assertEqual(shortest(EXAMPLE, cost=10 ** 30), shortest(EXAMPLE))
        self.assertEqual(cheapest(EXAMPLE, most=10 ** 30)[0], cheapest(EXAMPLE)[0])

    def test_every_choice_is_one(self):
        self.assertEqual(len(every_choice(EXAMPLE)), 4)


if __name__ == "__main__":
    unittest.main()
