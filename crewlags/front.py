"""Trade-offs between the time of a project, its cost, and what is used of the stocks."""

from crewlags.accounts import ends_cost, modes_cost, stocks_over, uses_of
from crewlags.boards import board_of, ends_at, starts_at
from crewlags.grounds import Ground, Tables
from crewlags.least_ends import LeastEnds
from crewlags.needs import need_limit
from crewlags.projects import need_project
from crewlags.seeking import best_of, search_of
from crewlags.ties import work_spots


def all_choices(project):
    """All choices, ascending."""
    choices = [()]
    for modes in project.modes:
        choices = [choice + (at,) for choice in choices for at in range(len(modes))]
    return choices


def all_boards(project, most):
    """The boards of all choices that use no more than there is, everything ending at most at a time.

    There is none for a choice with which something cannot be done at all.
    """
    rows = [[work_spots(project, a, mode[0], most) for mode in modes] for a, modes in enumerate(project.modes)]
    choices = [choice for choice in all_choices(project) if not stocks_over(project, uses_of(project, choice))]
    ground, tables, least_ends = Ground(project), Tables(), LeastEnds(project)
    boards = []
    for choice in choices:
        spots = [rows[a][mode] for a, mode in enumerate(choice)]
        if all([len(row) > 0 for row in spots]):
            board = board_of(ground, tables, choice, spots)
            board.least_end = least_ends.told(board)
            boards.append(board)
    return boards


def in_time(project, boards, most):
    """The boards with a plan that has perhaps ended at the horizon, and at most."""
    last = project.horizon if most is None else min(most, project.horizon)
    return [board for board in boards if board.least_end <= last]


def amounts_at(project, boards):
    """The function that tells for a board at some places (time, cost, and each use of a stock).

    It is less than those of all plans on the board from there on, or as much.
    """
    costs = {board.choice: modes_cost(project, board.choice) for board in boards}
    uses = {board.choice: uses_of(project, board.choice) for board in boards}

    def told_at(board, places):
        ends = ends_at(board, places)
        time = max(max(ends), board.least_end)
        return (time, costs[board.choice] + ends_cost(project, ends, time)) + uses[board.choice]

    return told_at


def is_nowhere_more(ones, others):
    """Whether of some numbers none is more than that of the others."""
    for one, other in zip(ones, others):
        if one > other:
            return False
    return True


def unbeaten(boards, told_at):
    """What is told of plans that keep a project and is nowhere more than for another plan, in ascending order.

    Each one comes once, with the board and the places of a plan. As the least one
    comes first, none that comes later beats one that has come.
    """
    found = []

    def worth(board, places):
        told = told_at(board, places)
        for row in found:
            if is_nowhere_more(row[0], told):
                return None
        return told

    search = search_of(boards, worth)
    best = search.next_good(worth)
    while best is not None:
        found.append(best)
        best = search.next_good(worth)
    return found


def plan_of(best):
    """The worth, the choice and the starts of the plan of a search, None for none."""
    if best is None:
        return None
    worth, board, places = best
    return worth, board.choice, starts_at(board, places)


def trade_offs(project):
    """The accounts that are beaten by no other plan, each with a plan."""
    need_project(project)
    boards = in_time(project, all_boards(project, None), None)
    rows = []
    for best in unbeaten(boards, amounts_at(project, boards)):
        told, choice, starts = plan_of(best)
        rows.append(((told[0], told[1], told[2:]), choice, starts))
    return rows


def shortest(project, *, cost=None):
    """The least time of a plan of at most a cost, with its choice and its starts, or None."""
    need_project(project)
    need_limit(cost, "cost")
    boards = in_time(project, all_boards(project, None), None)
    told_at = amounts_at(project, boards)

    def worth(board, places):
        told = told_at(board, places)
        return told[0] if cost is None or told[1] <= cost else None

    return plan_of(best_of(boards, worth))


def cheapest(project, *, most=None):
    """The least cost of a plan that has ended at most at a time, with its choice and its starts, or None."""
    need_project(project)
    need_limit(most, "most")
    boards = in_time(project, all_boards(project, most), most)
    told_at = amounts_at(project, boards)
    return plan_of(best_of(boards, lambda board, places: told_at(board, places)[1]))


def cost_curve(project):
    """The times that buy a lesser cost, each with this cost."""
    need_project(project)
    boards = in_time(project, all_boards(project, None), None)
    told_at = amounts_at(project, boards)
    return [best[0] for best in unbeaten(boards, lambda board, places: told_at(board, places)[:2])]
