"""[65], [66], [67], [68]: papers, their flaws, how to find one, and the fewest leaves."""

import random
import unittest
from functools import lru_cache
from itertools import combinations, permutations, product

from crewlags.calendars import Calendar
from crewlags.counts import count_plans
from crewlags.errors import NoNumber, NoProject, TooGreat
from crewlags.front import shortest
from crewlags.papers import fewest_leaves, flaw, paper_of
from crewlags.projects import Project, shape_of
from tests.project_support import (
    all_accounts, drawn, drawn_project, every_choice, marks, plain, slow_fault, slow_possible, slow_times,
)
from tests.support import PLAN, is_forbidden, looped, odd_values, raised
from tests.test_front import great_project

GREAT = 10 ** 30
EXAMPLE = Project(("a", "b"), 9, (1,), (), (((2, (1,), (), 0),), ((3, (1,), (), 0),)))
EXAMPLE_PAPER = ("modes", 0, (("modes", 1, (("energy", 0, 0, 4),)),))


def is_index(value, many):
    """Whether a value is an index of so many items."""
    return type(value) is int and 0 <= value < many


def is_step(value, many):
    """Whether a value has the form of a step."""
    if type(value) is not tuple or len(value) != 3 or not is_index(value[0], many):
        return False
    reason = value[2]
    if type(value[1]) is not int or value[1] < 0 or type(reason) is not tuple:
        return False
    if reason == ("window",):
        return True
    return len(reason) == 2 and reason[0] in ("lag", "ahead") and type(reason[1]) is int


def least_uses(project, chosen, k):
    """What is used of a stock at least."""
    return sum(
        min(mode[2][k] for mode in modes) if told is None else modes[told][2][k]
        for modes, told in zip(project.modes, chosen)
    )


def splits(project, choice, some):
    """Whether a value is a set that "first" may tell."""
    many = len(choice)
    if type(some) is not tuple or not all(is_index(a, many) for a in some) or list(some) != sorted(set(some)):
        return False
    if len(some) < 2:
        return False
    if len(some) == 2 and any(set(some) <= set(members) for members, _ in project.singles):
        return True
    return is_forbidden(shape_of(project, choice), some)


def shows_nothing(project, choice, ahead, most, steps):
    """Whether steps show that no starts keep the times."""
    if type(steps) is not list or not all(is_step(step, len(choice)) for step in steps):
        return False
    return slow_fault(project, choice, steps, ahead, most) is None


def too_much(project, choice, ahead, most, machine, first, last):
    """Whether more must be done on a machine than it bears."""
    if not is_index(machine, len(project.machines)) or type(first) is not int or type(last) is not int:
        return False
    told = slow_times(project, choice, ahead, most)
    if first < 0 or first >= last or told is None:
        return False
    work = 0
    for a, (least, greatest) in enumerate(zip(*told)):
        starts = [start for start in slow_possible(project, choice, a, most) if least <= start <= greatest]
        ends = [marks(project, choice, a, start)["end"] for start in starts]
        going = [max(0, min(end, last) - max(start, first)) for start, end in zip(starts, ends)]
        work += min(going) * project.modes[a][choice[a]][1][machine]
    return work > project.machines[machine] * (last - first)


def slow_flaw(project, most, paper, chosen=None, ahead=(), way=()):
    """The way to the first part that is none, by the words of the document."""
    chosen = chosen or (None,) * len(project.names)
    if type(paper) is not tuple or not paper or type(paper[0]) is not str:
        return way
    moments = None
    if paper[0] == "modes" and len(paper) == 3 and is_index(paper[1], len(chosen)) and chosen[paper[1]] is None:
        a = paper[1]
        moments = [(chosen[:a] + (mode,) + chosen[a + 1:], ahead) for mode in range(len(project.modes[a]))]
    elif paper[0] == "stock" and len(paper) == 2 and is_index(paper[1], len(project.stocks)):
        return None if least_uses(project, chosen, paper[1]) > project.stocks[paper[1]] else way
    elif None in chosen:
        return way
    elif paper[0] == "times" and len(paper) == 2:
        return None if shows_nothing(project, chosen, ahead, most, paper[1]) else way
    elif paper[0] == "energy" and len(paper) == 4:
        return None if too_much(project, chosen, ahead, most, *paper[1:]) else way
    elif paper[0] == "first" and len(paper) == 3 and splits(project, chosen, paper[1]):
        moments = [(chosen, ahead + (pair,)) for pair in permutations(paper[1], 2)]
    if moments is None or type(paper[2]) not in (list, tuple) or len(paper[2]) != len(moments):
        return way
    for at, (part, moment) in enumerate(zip(paper[2], moments)):
        told = slow_flaw(project, most, part, *moment, way + (at,))
        if told is not None:
            return told
    return None


def ways_of(paper, way=()):
    """The ways to all parts of a paper."""
    rows = [way]
    if paper[0] in ("modes", "first"):
        for at, part in enumerate(paper[2]):
            rows += ways_of(part, way + (at,))
    return rows


def part_at(paper, way):
    """The part at a way."""
    for at in way:
        paper = paper[2][at]
    return paper


def put(paper, way, part):
    """The paper with another part at a way."""
    if not way:
        return part
    papers = list(paper[2])
    papers[way[0]] = put(papers[way[0]], way[1:], part)
    return paper[:2] + (tuple(papers),) + paper[3:]


def other_part(rnd, part):
    """Another part, that may be one and may be none."""
    rows = [
        ("stock", rnd.randint(0, 1)), ("energy", rnd.randint(0, 1), rnd.randint(0, 4), rnd.randint(1, 9)), ("times", []),
        ("modes", rnd.randint(0, 2), ()), ("first", (0, 1), ()), part + (0,), part[:-1], list(part), ("no",) + part[1:],
    ]
    if part[0] in ("modes", "first"):
        rows += [part[:2] + (list(part[2]),), part[:2] + (part[2][::-1],), part[:2] + (part[2][:-1],),
                 (part[0], rnd.randint(0, 2), part[2]), part[2][0], part[:2] + (part[2] + part[2][:1],)]
    if part[0] == "first":
        rows += [("first", tuple(sorted(rnd.sample(range(3), 2))), part[2]), ("first", (0, 1, 2), part[2] * 3)]
    if part[0] == "times":
        rows += [("times", part[1][:-1]), ("times", part[1] + [(0, 1, ("window",))]), ("times", tuple(part[1])),
                 ("times", part[1] + [(0, 0, ("lag", 0))]), ("times", part[1] * 2)]
    if part[0] == "energy":
        rows += [("energy", part[1], part[2] + 1, part[3]), ("energy", part[1], part[2], part[3] + 1),
                 ("energy", part[1], part[2] // 2, part[3]), ("energy", part[1], part[3], part[2]), ("times", [])]
    return rnd.choice(rows)


def one_by_one(seed):
    """Three activities that go on one by one, with set-ups."""
    rnd = random.Random(seed)
    table = tuple(tuple(rnd.randint(0, 2) for _ in range(2)) for _ in range(2))
    works = [rnd.randint(1, 3) for _ in range(3)]
    return plain(works, horizon=8, families=(0, 1, rnd.randint(0, 1)), singles=(((0, 1, 2), table),))


class PaperOf(unittest.TestCase):
    def test_none_just_if_a_plan_is_as_short(self):
        seen = {None: 0}
        for seed in range(240):
            project, plans = drawn(seed), all_accounts(seed)
            for most in (0, 1, 2, 3, 4, 6, project.horizon, GREAT):
                paper = paper_of(project, most)
                self.assertEqual(paper is None, any(told[0] <= most for told in plans))
                if paper is None:
                    seen[None] += 1
                    continue
                self.assertIsNone(flaw(project, most, paper))
                self.assertIsNone(slow_flaw(project, most, paper))
                for way in ways_of(paper):
                    word = part_at(paper, way)[0]
                    seen[word] = seen.get(word, 0) + 1
        self.assertLessEqual({None, "modes", "stock", "first", "times", "energy"}, set(seen))
        self.assertGreater(min(seen.values()), 30, seen)

    def test_four_and_five_activities(self):
        shown = 0
        for seed in range(60):
            project = drawn_project(random.Random(seed), 4 + seed % 2, 12, choices=3)
            best = shortest(project)
            if best is not None:
                self.assertIsNone(paper_of(project, best[0]))
                self.assertIsNone(paper_of(project, best[0] + 1))
                if best[0] == 0:
                    continue
            most = 40 if best is None else best[0] - 1
            self.assertIsNone(flaw(project, most, paper_of(project, most)))
            shown += 1
        self.assertGreater(shown, 30)

    def test_great_projects(self):
        for seed in range(6):
            project = great_project(seed)
            best = shortest(project)
            most = 60 if best is None else best[0] - 1
            self.assertIsNone(flaw(project, most, paper_of(project, most)))
            if best is not None:
                self.assertIsNone(paper_of(project, best[0]))

    def test_a_paper_for_a_time_is_one_for_each_lesser_time_where_steps_stay(self):
        for seed in range(60):
            project = drawn(seed)
            best = shortest(project)
            top = 12 if best is None else best[0] - 1
            for most in range(top + 1):
                self.assertIsNotNone(paper_of(project, most))

    def test_example(self):
        self.assertIsNone(paper_of(EXAMPLE, 5))
        self.assertIsNone(flaw(EXAMPLE, 4, paper_of(EXAMPLE, 4)))
        self.assertIsNone(flaw(EXAMPLE, 4, EXAMPLE_PAPER))
        self.assertEqual(flaw(EXAMPLE, 5, EXAMPLE_PAPER), (0, 0))

    def test_what_is_told_is_new(self):
        project = plain((2, 3), horizon=9, singles=(((0, 1), ((0,),)),))
        for _ in range(2):
            paper = paper_of(project, 4)
            for way in ways_of(paper):
                if part_at(paper, way)[0] == "times":
                    part_at(paper, way)[1].clear()
            self.assertIsNotNone(flaw(project, 4, paper))
            self.assertIsNone(flaw(project, 4, paper_of(project, 4)))

    def test_one_part_shows_that_a_machine_cannot_bear_it(self):
        modes = tuple(tuple((10 - k, (1,), (), 0) for k in range(3)) for _ in range(5))
        project = Project(tuple("abcde"), 60, (1,), (), modes)
        paper = paper_of(project, 39)
        self.assertIsNone(flaw(project, 39, paper))
        words = [part_at(paper, way)[0] for way in ways_of(paper)]
        self.assertEqual([words.count(word) for word in ("modes", "energy")], [121, 243])
        self.assertEqual(len(words), 121 + 243)
        self.assertIsNone(paper_of(project, 40))


class Flaw(unittest.TestCase):
    def whole(self, project, part):
        """A paper that chooses the only mode of each activity, and then has a part."""
        for a in range(len(project.names) - 1, -1, -1):
            part = ("modes", a, [part])
        return part

    def check(self, project, most, part, told):
        """What flaw tells of a part at which all modes are chosen: a way from there, or None."""
        paper = self.whole(project, part)
        right = None if told is None else (0,) * len(project.names) + told
        self.assertEqual(flaw(project, most, paper), right, part)

    def test_papers_spoilt_by_chance(self):
        rnd = random.Random(1)
        spoilt = stand = deep = 0
        for project in [drawn(seed) for seed in range(240)] + [one_by_one(seed) for seed in range(30)]:
            for most in (1, 2, 4):
                paper = paper_of(project, most)
                if paper is None:
                    continue
                ways = ways_of(paper)
                for _ in range(8):
                    other = paper
                    for way in sorted(rnd.sample(ways, min(len(ways), rnd.randint(1, 2))), key=len, reverse=True):
                        other = put(other, way, other_part(rnd, part_at(paper, way)))
                    told = flaw(project, most, other)
                    self.assertEqual(told, slow_flaw(project, most, other), other)
                    spoilt += told is not None
                    stand += told is None
                    deep += told is not None and len(told) > 3
        self.assertGreater(spoilt, 1000)
        self.assertGreater(stand, 30)
        self.assertGreater(deep, 50)

    def test_whatever_it_is(self):
        values = odd_values() + [(), [], ("modes",), ("no", 0), "modes", ["modes", 0, [0]], (None, 0), (("modes",), 0)]
        values += [("",), (0, 0, ()), (True,), (b"stock", 0), {"modes": 0}, 0, ("Modes", 0, ()), ("stock ", 0), (looped(), 0)]
        for value in values:
            self.assertEqual(flaw(EXAMPLE, 4, value), ())
            self.assertEqual(flaw(EXAMPLE, 4, ("modes", 0, (value,))), (0,))
            self.check(EXAMPLE, 4, value, ())
            both = ("first", (0, 1), (("times", [(1, 2, ("ahead", 0))]), value))
            self.check(EXAMPLE, 4, both, (1,))
            self.check(EXAMPLE, 4, ("first", (0, 1), (value, None)), (0,))

    def test_modes(self):
        mode = (1, (), (9,), 0)
        project = Project(("a", "b"), 9, (), (5,), ((mode, mode), (mode,)))
        stock = ("stock", 0)
        self.assertIsNone(flaw(project, 4, ("modes", 0, (stock, stock))))
        self.assertIsNone(flaw(project, 4, ("modes", 0, [stock, stock])))
        self.assertIsNone(flaw(project, 4, ("modes", 1, (stock,))))
        self.assertIsNone(flaw(project, 4, ("modes", 1, (("modes", 0, [stock, stock]),))))
        for paper in (
            ("modes", 0, (stock,)), ("modes", 0, (stock,) * 3), ("modes", 0, ()), ("modes", 0), ("modes", 0, (stock, stock), 0),
            ("modes", 2, (stock, stock)), ("modes", -1, (stock,)), ("modes", True, (stock,)), ("modes", False, (stock, stock)),
            ("modes", None, (stock, stock)), ("modes", "0", (stock, stock)), ("modes", (0,), (stock, stock)),
            ("modes", 0, {0: stock, 1: stock}), ("modes", 0, None), ("modes", 0, stock), ("modes", 0, "ab"),
            ["modes", 0, (stock, stock)], ("modes", 0, looped()), ("modes", 1, None), ("modes", [0], (stock, stock)),
            ("modes", 0, {stock}), ("modes", 0, range(2)), ("mode", 0, (stock, stock)),
        ):
            way = () if paper != ("modes", 0, stock) else (0,)
            self.assertEqual(flaw(project, 4, paper), way, paper)
        for value in odd_values():
            self.assertEqual(flaw(project, 4, ("modes", value, (stock, stock))), ())
        # the mode is chosen already
        self.assertEqual(flaw(project, 4, ("modes", 1, (("modes", 1, (stock,)),))), (0,))
        self.assertEqual(flaw(project, 4, ("modes", 0, (("modes", 0, (stock, stock)), stock))), (0,))
        self.assertEqual(flaw(project, 4, ("modes", 0, (stock, ("modes", 1, [("modes", 0, [stock, stock])])))), (1, 0))

    def test_stock_at_just_what_there_is(self):
        modes = (((1, (), (2, 0), 0), (1, (), (4, 0), 0)), ((1, (), (3, 9), 0), (1, (), (5, 1), 0)))

        def told(stocks, chosen, k):
            paper = ("stock", k)
            for a, mode in chosen:
                rows = [("stock", 9)] * 2
                rows[mode] = paper
                paper = ("modes", a, [("times", None)] * 2)
                paper = ("modes", a, rows)
            return flaw(Project(("a", "b"), 9, (), stocks, modes), 4, paper)

        self.assertEqual(told((5, 9), (), 0), ())
        self.assertIsNone(told((4, 9), (), 0))
        self.assertIsNone(told((4, 0), (), 1))
        self.assertEqual(told((4, 1), (), 1), ())
        # the chosen mode counts, for the others the one that uses the least
        self.assertEqual(told((6, 9), ((0, 0),), 0), (0,))
        self.assertEqual(told((7, 9), ((0, 1),), 0), (0,))
        self.assertEqual(told((6, 9), ((0, 1),), 0), (0,))
        one = Project(("a", "b"), 9, (), (6, 0), modes)
        self.assertEqual(flaw(one, 4, ("modes", 0, (("stock", 1), ("stock", 0)))), None)
        self.assertEqual(flaw(one, 4, ("modes", 0, (("stock", 0), ("stock", 0)))), (0,))
        wide = Project(("a", "b"), 9, (), (7, 0), modes)
        self.assertEqual(flaw(wide, 4, ("modes", 0, (("stock", 1), ("stock", 0)))), (1,))
        both = ("modes", 1, (("stock", 1), ("modes", 0, (("stock", 0), ("stock", 0)))))
        self.assertIsNone(flaw(Project(("a", "b"), 9, (), (6, 8), modes), 4, both))
        self.assertEqual(flaw(Project(("a", "b"), 9, (), (6, 9), modes), 4, both), (0,))
        self.assertEqual(flaw(Project(("a", "b"), 9, (), (7, 8), modes), 4, both), (1, 0))
        for paper in (
            ("stock",), ("stock", 0, 0), ("stock", 2), ("stock", -1), ("stock", True), ("stock", False), ("stock", None),
            ("stock", "0"), ("stock", (0,)), ["stock", 0], ("stock", [0]),
        ):
            self.assertEqual(flaw(Project(("a", "b"), 9, (), (0, 0), modes), 4, paper), (), paper)
        for value in odd_values():
            self.assertEqual(flaw(one, 4, ("stock", value)), ())

    def test_stock_where_all_modes_are_chosen_and_pairs_are_ahead(self):
        modes = (((1, (1,), (2,), 0),), ((1, (1,), (3,), 0),))
        project = Project(("a", "b"), 9, (1,), (4,), modes)
        self.check(project, 4, ("stock", 0), None)
        self.check(project, 4, ("first", (0, 1), (("stock", 0), ("stock", 0))), None)
        self.check(Project(("a", "b"), 9, (1,), (5,), modes), 4, ("first", (0, 1), (("stock", 0), ("stock", 0))), (0,))

    def test_ahead_of_all_modes_chosen(self):
        for part in (
            ("first", (0, 1), (("times", [(1, 2, ("ahead", 0))]), ("times", [(0, 3, ("ahead", 0))]))), ("energy", 0, 0, 4),
            ("times", []),
        ):
            self.assertEqual(flaw(EXAMPLE, 4, part), ())
            self.assertEqual(flaw(EXAMPLE, 4, ("modes", 0, (part,))), (0,))
            self.assertEqual(flaw(EXAMPLE, 4, ("modes", 1, [part])), (0,))
        self.assertIsNone(flaw(EXAMPLE, 1, self.whole(EXAMPLE, ("times", []))))

    def test_first(self):
        late = ("times", [(1, 2, ("ahead", 0))])
        early = ("times", [(0, 3, ("ahead", 0))])
        self.check(EXAMPLE, 4, ("first", (0, 1), (late, early)), None)
        self.check(EXAMPLE, 4, ("first", (0, 1), [late, early]), None)
        self.check(EXAMPLE, 4, ("first", (0, 1), (early, late)), (0,))
        self.check(EXAMPLE, 4, ("first", (0, 1), (late, late)), (1,))
        for some in odd_values() + [(1, 0), [0, 1], (0,), (), (0, 0), (0, 2), (0, 1, 2), (-1, 0), (False, True), (0, True),
                                    "01", ((0, 1),), (0, None), (0, "1"), {0: 1, 1: 0}]:
            self.check(EXAMPLE, 4, ("first", some, (late, early)), ())
        for papers in ((late,), (late, early, late), (), None, {0: late, 1: early}, "ab", looped(), range(2)):
            self.check(EXAMPLE, 4, ("first", (0, 1), papers), ())
        for part in (("first", (0, 1)), ("first", (0, 1), (late, early), 0), ["first", (0, 1), (late, early)]):
            self.check(EXAMPLE, 4, part, ())

    def test_first_of_what(self):
        def allows(project, some):
            many = len(some) * (len(some) - 1)
            return flaw(project, 0, self.whole(project, ("first", some, [("times", [])] * many)))

        works = (2, 2, 2, 2)
        modes = tuple(((work, (1,), (), 0),) for work in works)
        two = Project(tuple("abcd"), 9, (2,), (), modes, singles=(((1, 3), ((0,),)),))
        way = (0,) * 4
        for size in (2, 3, 4):
            for some in combinations(range(4), size):
                right = size > 2 or some == (1, 3)
                self.assertEqual(allows(two, some), None if right else way, some)
        # members of a single that are more than two, and are not forbidden
        three = plain(works, singles=(((0, 1, 2), ((0,),)), ((2, 3), ((4,),))))
        for size in (2, 3, 4):
            for some in combinations(range(4), size):
                right = some in ((0, 1), (0, 2), (1, 2), (2, 3))
                self.assertEqual(allows(three, some), None if right else way, some)
        # one that is in both singles does not bring together what is in one each
        self.assertEqual(allows(three, (0, 3)), way)
        crew = Project(("a", "b", "c"), 9, (), (), (((2, (), (), 0),),) * 3, crew=(("x",), ("x",)), asks=((("x", 1),),) * 3)
        for some in ((0, 1), (0, 2), (1, 2), (0, 1, 2)):
            self.assertEqual(allows(crew, some), None if some == (0, 1, 2) else (0,) * 3)
        # what is forbidden depends on the mode
        both = Project(("a", "b"), 9, (2,), (), (((2, (1,), (), 0), (2, (2,), (), 0)), ((2, (1,), (), 0),)))
        part = ("modes", 1, [("first", (0, 1), [("times", [])] * 2)])
        self.assertEqual(flaw(both, 0, ("modes", 0, [part, part])), (0, 0))
        self.assertEqual(flaw(both, 0, ("modes", 0, [("modes", 1, [("times", [])]), part])), None)

    def test_the_order_of_the_papers_of_three(self):
        project = Project(("a", "b", "c"), 9, (2,), (), (((2, (1,), (), 0),), ((3, (1,), (), 0),), ((4, (1,), (), 0),)))
        pairs = list(permutations(range(3), 2))
        works = (2, 3, 4)
        # at most 4: c takes all the time, so each pair with it shows it by one step; a and b need the sum
        papers = [("times", [(b, works[a], ("ahead", 0))]) for a, b in pairs]
        self.check(project, 4, ("first", (0, 1, 2), papers), None)
        for one, other in combinations(range(6), 2):
            swapped = list(papers)
            swapped[one], swapped[other] = swapped[other], swapped[one]
            # a step about another activity does not stand, a later one about the same does
            same = pairs[one][1] == pairs[other][1]
            self.check(project, 4, ("first", (0, 1, 2), swapped), None if same else (one,))

    def test_pairs_that_stand_already_and_more_than_twenty(self):
        stay = ("times", [(0, 3, ("ahead", 0))])

        def deep(many, part):
            for _ in range(many):
                part = ("first", (0, 1), (part, stay))
            return part

        last = ("times", [(1, 2, ("ahead", 0))])
        self.check(EXAMPLE, 4, deep(1, last), None)
        # behind (0, 1) the pair (1, 0) is the one with the index 1
        self.check(EXAMPLE, 4, deep(2, last), (0, 1))
        both = ("times", [(1, 2, ("ahead", 0))])
        part = both
        for _ in range(30):
            part = ("first", (0, 1), (part, both))
        paper = ("first", (0, 1), (part, stay))
        self.check(EXAMPLE, 4, paper, None)
        for index, told in ((29, None), (30, None), (31, (0,) * 31)):
            part = ("times", [(1, 2, ("ahead", index))])
            for _ in range(30):
                part = ("first", (0, 1), (part, both))
            self.check(EXAMPLE, 4, ("first", (0, 1), (part, stay)), told)

    def test_very_deep_papers(self):
        both = ("times", [(1, 2, ("ahead", 0))])
        part = both
        for _ in range(1500):
            part = ("first", (0, 1), (part, both))
        self.check(EXAMPLE, 4, ("first", (0, 1), (part, ("times", [(0, 3, ("ahead", 0))]))), None)
        self.check(EXAMPLE, 4, ("first", (0, 1), (part, None)), (1,))

    def test_times(self):
        lags = (("end", 0, "start", 1, 1, None),)
        project = plain((2, 3), horizon=9, lags=lags)
        self.check(project, 5, ("times", [(1, 3, ("lag", 0))]), None)
        self.check(project, 6, ("times", [(1, 3, ("lag", 0))]), ())
        for steps in ([], [(1, 2, ("lag", 0))], [(0, 1, ("lag", 0))], ((1, 3, ("lag", 0)),), None, [None], looped(), {}, "",
                      [(1, 3, ("lag", 1))], [(1, 3, ("ahead", 0))]):
            self.check(project, 5, ("times", steps), ())
        for part in (("times",), ("times", [(1, 3, ("lag", 0))], 0), ["times", [(1, 3, ("lag", 0))]]):
            self.check(project, 5, part, ())
        for value in odd_values():
            self.check(project, 5, ("times", value), ())
        # the chosen mode counts
        modes = (((2, (), (), 0), (1, (), (), 0)), ((3, (), (), 0),))
        both = Project(("a", "b"), 9, (), (), modes, lags=lags)
        parts = [("modes", 1, [("times", [(1, late, ("lag", 0))])]) for late in (3, 2)]
        self.assertIsNone(flaw(both, 4, ("modes", 0, parts)))
        self.assertEqual(flaw(both, 5, ("modes", 0, parts)), (1, 0))
        self.assertEqual(flaw(both, 5, ("modes", 0, parts[::-1])), (0, 0))

    def test_energy_at_and_above_what_the_machine_bears(self):
        self.check(EXAMPLE, 4, ("energy", 0, 0, 4), None)
        self.check(EXAMPLE, 5, ("energy", 0, 0, 5), ())
        self.check(EXAMPLE, 4, ("energy", 0, 0, 5), ())
        self.check(EXAMPLE, 4, ("energy", 0, 1, 4), ())
        self.check(EXAMPLE, 4, ("energy", 0, 1, 3), None)
        self.check(EXAMPLE, 4, ("energy", 0, 0, 2), ())
        # times tells nothing
        self.check(EXAMPLE, 2, ("energy", 0, 0, 2), ())
        self.check(EXAMPLE, 3, ("energy", 0, 0, 3), None)
        self.check(EXAMPLE, 3, ("energy", 0, 0, 4), None)
        self.check(EXAMPLE, 3, ("energy", 0, 1, 2), None)
        self.check(EXAMPLE, 3, ("energy", 0, 2, 3), ())
        for part in (
            ("energy", 0, 0), ("energy", 0, 0, 4, 0), ("energy", 1, 0, 4), ("energy", -1, 0, 4), ("energy", True, 0, 4),
            ("energy", False, 0, 4), ("energy", 0, 4, 4), ("energy", 0, 4, 0), ("energy", 0, -1, 4), ("energy", 0, False, 4),
            ("energy", 0, 0, True), ("energy", 0, 0, None), ("energy", 0, None, 4), ("energy", "0", 0, 4), ("energy", (0,), 0, 4),
            ["energy", 0, 0, 4], ("energy", 0, "0", "4"), ("energy", 0, 0, GREAT), ("energy", 0, GREAT, GREAT + 1),
            ("energy", 0, (0,), 4), ("energy",),
        ):
            self.check(EXAMPLE, 4, part, ())
        for value in odd_values():
            for part in (("energy", value, 0, 4), ("energy", 0, value, 4), ("energy", 0, 0, value)):
                self.check(EXAMPLE, 4, part, ())

    def test_energy_against_the_words(self):
        rnd = random.Random(2)
        seen = {}
        for seed in range(600):
            project = drawn_project(random.Random(seed), 2 + seed % 2, 7, choices=1)
            choice = (0,) * len(project.names)
            pairs = list(permutations(range(len(choice)), 2))
            if not project.machines:
                continue
            for _ in range(6):
                most = rnd.randint(2, 7)
                part = ("energy", rnd.randrange(len(project.machines)), rnd.randint(0, 4), rnd.randint(1, 7))
                told = None if too_much(project, choice, (), most, *part[1:]) else ()
                self.check(project, most, part, told)
                seen[told] = seen.get(told, 0) + 1
            # with a pair ahead
            if (0, 1) in project.singles or splits(project, choice, (0, 1)):
                for at, pair in enumerate(pairs[:1] + [(1, 0)]):
                    part = ("energy", 0, rnd.randint(0, 3), rnd.randint(2, 6))
                    right = too_much(project, choice, (pair,), 6, *part[1:])
                    good = paper_behind(project, 6, ((0, 1), (1, 0))[1 - at])
                    papers = [part, good] if at == 0 else [good, part]
                    if good is not None:
                        self.check(project, 6, ("first", (0, 1), papers), None if right else (at,))
                        seen["ahead", right] = seen.get(("ahead", right), 0) + 1
        self.assertGreater(seen[None], 15)
        self.assertGreater(seen[()], 500)
        self.assertGreater(seen["ahead", False], 20)

    def test_energy_with_pairs_ahead(self):
        modes = (((2, (1,), (), 0),), ((3, (1,), (), 0),), ((2, (1,), (), 0),))
        project = Project(("a", "b", "c"), 20, (1,), (), modes, windows=((0, None), (0, None), (2, 4)))
        part = ("energy", 0, 2, 5)
        # with nothing ahead b could start at 0, with a ahead of it no earlier than 2
        self.check(project, 6, part, ())
        self.check(project, 6, ("first", (0, 1), (part, part)), None)
        self.check(project, 7, ("first", (0, 1), (part, part)), (0,))
        self.check(project, 6, ("first", (0, 1), (part, ("energy", 0, 3, 5))), (1,))
        self.check(project, 6, ("first", (0, 1), (("energy", 0, 3, 5), part)), None)

    def test_energy_with_calendars_and_windows(self):
        calendar = Calendar((True, False, False))
        modes = (((2, (1,), (), 0),), ((1, (1,), (), 0),))
        project = Project(("a", "b"), 12, (1,), (), modes, calendars=(calendar, None), windows=((0, None), (1, 4)))
        # a starts at 0 only, and holds the machine up to 4; b goes on for 1 somewhere between 1 and 4
        self.check(project, 6, ("energy", 0, 0, 4), None)
        self.check(project, 6, ("energy", 0, 1, 4), None)
        self.check(project, 6, ("energy", 0, 2, 4), ())
        # a may also start at 3, but nowhere in between
        self.check(project, 7, ("energy", 0, 3, 4), ())
        alone = Project(("a", "b"), 12, (1,), (), (((4, (1,), (), 0),), ((0, (1,), (), 0),)), windows=((0, 7), (0, None)))
        gap = Project(("a", "b"), 12, (2,), (), (((4, (2,), (), 0),), ((1, (1,), (), 0),)), windows=((0, 6), (2, 4)))
        # a goes on from 2 to 4 whenever it starts, b for one of these two
        self.check(gap, 12, ("energy", 0, 2, 4), None)
        self.check(gap, 12, ("energy", 0, 1, 4), ())
        self.check(gap, 12, ("energy", 0, 2, 5), ())
        self.check(alone, 12, ("energy", 0, 3, 4), ())

    def test_the_least_start_and_the_greatest_one_are_those_that_keep_the_times(self):
        lags = (("start", 0, "start", 1, 2, 2),)
        modes = (((2, (1,), (), 0),), ((5, (1,), (), 0),))
        project = Project(("a", "b"), 12, (1,), (), modes, lags=lags)
        # b starts at 2 or 3, as at most 8 leaves it no more, so a starts at 0 or 1 although it could start later
        self.check(project, 8, ("energy", 0, 1, 7), ())
        self.check(project, 8, ("energy", 0, 3, 7), ())
        beside = Project(("a", "b", "c"), 12, (1,), (), modes + (((1, (1,), (), 0),),), lags=lags, windows=((0, None),) * 2 + ((1, 2),))
        self.check(beside, 8, ("energy", 0, 1, 2), None)
        self.check(beside, 9, ("energy", 0, 1, 2), ())
        three = Project(("a", "b", "c"), 12, (1,), (), modes + (((4, (1,), (), 0),),), lags=lags, windows=((0, None),) * 2 + ((3, 7),))
        self.check(three, 8, ("energy", 0, 3, 7), None)
        self.check(three, 9, ("energy", 0, 3, 7), None)
        self.check(three, 12, ("energy", 0, 3, 7), ())

    def test_the_way_to_the_first_part(self):
        mode = (1, (), (9,), 0)
        project = Project(("a", "b", "c"), 9, (), (5,), ((mode,) * 3, (mode,) * 2, (mode,)))
        good, bad = ("stock", 0), ("stock", 1)
        rows = ("modes", 1, (good, ("modes", 2, (bad,))))
        self.assertEqual(flaw(project, 4, ("modes", 0, (good, good, rows))), (2, 1, 0))
        self.assertEqual(flaw(project, 4, ("modes", 0, (good, rows, bad))), (1, 1, 0))
        self.assertEqual(flaw(project, 4, ("modes", 0, (rows, rows, bad))), (0, 1, 0))
        self.assertEqual(flaw(project, 4, ("modes", 0, (good, bad, rows))), (1,))
        # a part comes ahead of the papers in it
        self.assertEqual(flaw(project, 4, ("modes", 0, (good, ("modes", 1, (bad,)), bad))), (1,))
        self.assertEqual(flaw(project, 4, ("modes", 0, (bad, bad))), ())
        self.assertIsInstance(flaw(project, 4, bad), tuple)


def paper_behind(project, most, pair):
    """Steps at the moment with one pair ahead, if a paper is as simple as that."""
    from crewlags.times import derivation
    steps = derivation(project, (0,) * len(project.names), ahead=[pair], most=most)
    return None if steps is None else ("times", steps)


def slow_leaves(project, most):
    """The fewest leaves, by going over all moments again and again until nothing gets less."""
    many = len(project.names)
    pairs = list(permutations(range(many), 2))
    moments = []
    for chosen in product(*[(None, *range(len(modes))) for modes in project.modes]):
        parts = [frozenset()]
        if None not in chosen:
            parts = [frozenset(some) for size in range(len(pairs) + 1) for some in combinations(pairs, size)]
        moments += [(chosen, ahead) for ahead in parts]
    known = {}
    keeps_any = lru_cache(maxsize=None)(lambda choice, ahead: slow_times(project, choice, sorted(ahead), most) is not None)
    for chosen, ahead in moments:
        over = any(least_uses(project, chosen, k) > stock for k, stock in enumerate(project.stocks))
        if over or (None not in chosen and not keeps_any(chosen, ahead)):
            known[chosen, ahead] = 1
    sets = {}
    for chosen in {chosen for chosen, _ in moments if None not in chosen}:
        every = [some for size in range(2, many + 1) for some in combinations(range(many), size)]
        sets[chosen] = [list(permutations(some, 2)) for some in every if splits(project, chosen, some)]
    changed = True
    while changed:
        changed = False
        for chosen, ahead in moments:
            rows = [[(chosen, ahead | {pair}) for pair in some] for some in sets.get(chosen, [])]
            rows += [[(chosen[:a] + (mode,) + chosen[a + 1:], ahead) for mode in range(len(project.modes[a]))]
                     for a in range(many) if chosen[a] is None]
            for row in rows:
                if all(moment in known for moment in row):
                    told = sum(known[moment] for moment in row)
                    if told < known.get((chosen, ahead), 10 ** 9):
                        known[chosen, ahead] = told
                        changed = True
    return known.get(((None,) * many, frozenset()))


class FewestLeaves(unittest.TestCase):
    def test_against_another_way(self):
        seen = {}
        for seed in range(100):
            project = drawn_project(random.Random(seed), 1 + seed % 3, 5, longest=3)
            for most in (1, 3, 5):
                told = fewest_leaves(project, most)
                self.assertEqual(told, slow_leaves(project, most))
                seen[told] = seen.get(told, 0) + 1
        self.assertGreater(len(seen), 6, seen)

    def test_none_just_if_there_is_no_paper(self):
        for seed in range(120):
            project = drawn(seed)
            for most in range(project.horizon + 1):
                self.assertEqual(fewest_leaves(project, most) is None, paper_of(project, most) is None)

    def test_never_more_than_the_paper_that_is_told_has(self):
        compared = 0
        for seed in range(120):
            project = drawn(seed)
            for most in (0, 2, 4, project.horizon):
                paper = paper_of(project, most)
                words = [] if paper is None else [part_at(paper, way)[0] for way in ways_of(paper)]
                if words and "energy" not in words:
                    self.assertGreaterEqual(words.count("times") + words.count("stock"), fewest_leaves(project, most))
                    compared += 1
        self.assertGreater(compared, 100)

    def test_they_never_grow_as_the_time_gets_less(self):
        steps = 0
        for seed in range(160):
            project = drawn(seed)
            told = [fewest_leaves(project, most) for most in range(project.horizon + 1)]
            known = [many for many in told if many is not None]
            self.assertEqual(told, known + [None] * (len(told) - len(known)))
            self.assertEqual(known, sorted(known))
            steps += len(set(known)) > 1
        self.assertGreater(steps, 5)

    def test_without_machines_singles_crew_and_stocks(self):
        for seed in range(60):
            rnd = random.Random(seed)
            many = rnd.randint(1, 3)
            lags = [("end", rnd.randrange(many), "start", rnd.randrange(many), rnd.randint(-2, 2), None) for _ in range(2)]
            project = plain([rnd.randint(0, 3) for _ in range(many)], horizon=8, lags=lags)
            for most in range(9):
                self.assertIn(fewest_leaves(project, most), (1, None))

    def test_example(self):
        self.assertEqual(fewest_leaves(EXAMPLE, 4), 2)
        self.assertIsNone(fewest_leaves(EXAMPLE, 5))
        self.assertEqual(fewest_leaves(EXAMPLE, 2), 1)
        self.assertEqual(fewest_leaves(EXAMPLE, 3), 2)

    def test_one_part_for_each_mode(self):
        modes = (((2, (1,), (), 0), (3, (1,), (), 0)), ((3, (1,), (), 0),))
        project = Project(("a", "b"), 9, (1,), (), modes)
        self.assertEqual(fewest_leaves(project, 4), 4)
        self.assertEqual(fewest_leaves(project, 2), 1 + 1)
        stocks = Project(("a", "b"), 9, (1,), (1,), (((2, (1,), (2,), 0), (3, (1,), (0,), 0)), ((3, (1,), (0,), 0),)))
        self.assertEqual(fewest_leaves(stocks, 5), 1 + 2)
        over = Project(("a", "b"), 9, (), (1,), (((2, (), (2,), 0), (3, (), (3,), 0)), ((3, (), (0,), 0),)))
        self.assertEqual(fewest_leaves(over, 9), 1)

    def test_which_mode_is_chosen_first_matters(self):
        # once b has its long mode, nothing of a matters; the other way round it is shown for each mode of a
        modes = (((1, (), (0,), 0),) * 3, ((9, (), (5,), 0), (1, (), (9,), 0)))
        project = Project(("a", "b"), 9, (), (8,), modes)
        self.assertEqual(fewest_leaves(project, 4), 3 + 1)

    def test_three_one_at_a_time(self):
        project = Project(("a", "b", "c"), 20, (1,), (), (((2, (1,), (), 0),),) * 3)
        self.assertIsNone(fewest_leaves(project, 6))
        self.assertEqual(fewest_leaves(project, 5), 6)
        self.assertEqual(fewest_leaves(project, 3), 2)
        self.assertEqual(fewest_leaves(project, 1), 1)
        three = Project(("a", "b", "c"), 20, (2,), (), (((2, (1,), (), 0),),) * 3)
        self.assertEqual(fewest_leaves(three, 3), 6)
        self.assertIsNone(fewest_leaves(three, 4))

    def test_errors_in_their_order(self):
        four = plain((1, 1, 1, 1))
        five = plain((1, 1, 1, 1, 1))
        for project in (four, five):
            self.assertEqual(raised(lambda: fewest_leaves(project, 4)), (TooGreat, {"most": 3}))
            self.assertEqual(raised(lambda: fewest_leaves(project, None)), (NoNumber, {"part": "most"}))
        self.assertIsNone(fewest_leaves(plain((1, 1, 1)), 4))


class Errors(unittest.TestCase):
    CALLS = (paper_of, fewest_leaves, lambda project, most: flaw(project, most, EXAMPLE_PAPER))

    def test_no_project(self):
        for value in odd_values() + [(), []]:
            if not isinstance(value, Project):
                for call in self.CALLS:
                    for most in (4, None):
                        told = (NoProject, {"part": "project", "index": -1})
                        self.assertEqual(raised(lambda: call(value, most)), told)

    def test_no_number(self):
        for value in odd_values() + [-1, "4", (4,), True, False, None]:
            if value != GREAT:
                for call in self.CALLS:
                    self.assertEqual(raised(lambda: call(PLAN, value)), (NoNumber, {"part": "most"}))

    def test_great_times(self):
        self.assertIsNone(paper_of(EXAMPLE, GREAT))
        self.assertIsNone(fewest_leaves(EXAMPLE, GREAT))
        self.assertEqual(flaw(EXAMPLE, GREAT, EXAMPLE_PAPER), (0, 0))
        never = Project(("a", "b"), 4, (1,), (), EXAMPLE.modes)
        self.assertEqual(count_plans(never, (0, 0)), 0)
        self.assertIsNone(flaw(never, GREAT, paper_of(never, GREAT)))
        self.assertEqual(fewest_leaves(never, GREAT), 2)

    def test_every_choice_has_its_part(self):
        project = drawn(5)
        self.assertEqual(len(every_choice(project)), len(set(every_choice(project))))


if __name__ == "__main__":
    unittest.main()
