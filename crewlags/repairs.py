"""What moves in the plans of a project with chosen modes, and what need not.

All searches are for good rows among spots: to fix an activity is to leave it one spot.
The greatest places are looked for as the least ones of the mirrored board.
"""

from crewlags.accounts import stocks_over, uses_of
from crewlags.boards import board_of, ends_at, mirrored, starts_at
from crewlags.errors import NoFixed
from crewlags.grounds import Ground, Tables
from crewlags.kinds import is_index, is_natural, is_row
from crewlags.masks import all_sets
from crewlags.plans import all_ends, need_no_faults, need_plan
from crewlags.projects import need_choice, need_project
from crewlags.seeking import best_of
from crewlags.ties import all_spots


def is_fixed(value, many):
    """Whether a value is a tuple of one of so many activities and of a start."""
    if not isinstance(value, tuple) or len(value) != 2:
        return False
    return is_index(value[0], many) and is_natural(value[1])


def need_fixed(fixed, many):
    """Raises NoFixed if it tells no fixed starts."""
    if not is_row(fixed):
        raise NoFixed(-1)
    told = {}
    for at, item in enumerate(fixed):
        if not is_fixed(item, many) or item[0] in told:
            raise NoFixed(at)
        told[item[0]] = True


def with_start(row, start):
    """The spots of a row that have a start: one, or none."""
    return [spot for spot in row if spot[0] == start]


def near(row, start, shift):
    """The spots of a row that are at most so much earlier or later than a start."""
    return [spot for spot in row if start - shift <= spot[0] <= start + shift]


def others_fixed(rows, starts, free):
    """The spots of all activities, those that are not free having their start alone."""
    return [row if a in free else with_start(row, starts[a]) for a, row in enumerate(rows)]


class Case:
    """A project with chosen modes, of which good rows are looked for."""

    def __init__(self, project, choice):
        self.ground = Ground(project)
        self.choice = choice
        self.can_be = not stocks_over(project, uses_of(project, choice))


def boards_for(case, rows):
    """The board of some spots in a list, which is empty if the modes use more than there is."""
    return [board_of(case.ground, Tables(), case.choice, rows)] if case.can_be else []


def first_row(case, rows):
    """The first good row among some spots, or None."""
    best = best_of(boards_for(case, rows), lambda board, places: tuple(places))
    return None if best is None else starts_at(best[1], best[2])


def least_start(boards, a):
    """The least start of an activity in the good rows on some boards, if there are any."""
    _, board, places = best_of(boards, lambda board, places: places[a])
    return board.spots[a][places[a]][0]


def greatest_start(boards, a):
    """The greatest start of an activity in the good rows on some boards, if there are any."""
    return least_start([mirrored(board) for board in boards], a)


def good_row(project, choice, *, fixed=()):
    """The first good row in which some activities start as told, or None."""
    need_project(project)
    need_choice(project, choice)
    need_fixed(fixed, len(project.names))
    rows = all_spots(project, choice, None)
    for a, start in fixed:
        rows[a] = with_start(rows[a], start)
    return first_row(Case(project, choice), rows)


def must_move(project, choice, starts):
    """The set of the activities that start at another time than told in every good row, or None."""
    need_plan(project, choice, starts)
    case = Case(project, choice)
    rows = all_spots(project, choice, None)
    if first_row(case, rows) is None:
        return None
    moving = []
    for a, start in enumerate(starts):
        fixed = rows[:a] + [with_start(rows[a], start)] + rows[a + 1:]
        if first_row(case, fixed) is None:
            moving.append(a)
    return tuple(moving)


def fewest_moved(project, choice, starts):
    """The first set of the fewest activities that have to start otherwise, with the first good row, or None."""
    need_plan(project, choice, starts)
    case = Case(project, choice)
    rows = all_spots(project, choice, None)
    for moved in [()] + all_sets(len(starts)):
        row = first_row(case, others_fixed(rows, starts, moved))
        if row is not None:
            return moved, row
    return None


def near_row(case, rows, starts, shift):
    """The first good row in which nothing starts more than so much earlier or later than told, or None."""
    return first_row(case, [near(row, start, shift) for row, start in zip(rows, starts)])


def least_shift(project, choice, starts):
    """By how much starts have to move at least, and the first good row that is as near, or None."""
    need_plan(project, choice, starts)
    case = Case(project, choice)
    rows = all_spots(project, choice, None)
    shifts = sorted(set([abs(spot[0] - start) for row, start in zip(rows, starts) for spot in row]))
    if not shifts or near_row(case, rows, starts, shifts[-1]) is None:
        return None
    low, high = 0, len(shifts) - 1
    while low < high:
        middle = (low + high) // 2
        if near_row(case, rows, starts, shifts[middle]) is None:
            low = middle + 1
        else:
            high = middle
    return shifts[low], near_row(case, rows, starts, shifts[low])


def room(project, choice, starts):
    """For each activity its greatest start with all others as told, and in any good row, ending no later than told."""
    need_plan(project, choice, starts)
    need_no_faults(project, choice, starts)
    case = Case(project, choice)
    rows = all_spots(project, choice, max(all_ends(project, choice, starts)))
    boards = boards_for(case, rows)
    found = []
    for a in range(len(starts)):
        alone = greatest_start(boards_for(case, others_fixed(rows, starts, (a,))), a)
        found.append((alone, greatest_start(boards, a)))
    return found


def spans(project, choice):
    """The least time of a good row, and the least and the greatest start of each activity in it, or None."""
    need_project(project)
    need_choice(project, choice)
    case = Case(project, choice)
    rows = all_spots(project, choice, None)
    best = best_of(boards_for(case, rows), lambda board, places: max(ends_at(board, places)))
    if best is None:
        return None
    boards = boards_for(case, all_spots(project, choice, best[0]))
    return best[0], [(least_start(boards, a), greatest_start(boards, a)) for a in range(len(project.names))]
