"""Trade-offs between the time of a project, its cost, and what is used of the stocks."""

from crewlags.accounts import ends_cost, modes_cost, stocks_over, uses_of
from crewlags.boards import board_of, ends_at, starts_at
from crewlags.needs import need_limit
from crewlags.projects import need_project
from crewlags.seeking import best_of, search_of
from crewlags.ties import work_spots


def all_choices(project):
    """All choices, ascending."""
    choices = [()]
    for modes in project.modes:
        choices = [choice + (at,) for choice in choices for at in range(len(modes))]
    return choices


def all_boards(project, most):
    """The boards of all choices that use no more than there is, everything ending at most at a time."""
    rows = [[work_spots(project, a, mode[0], most) for mode in modes] for a, modes in enumerate(project.modes)]
    choices = [choice for choice in all_choices(project) if not stocks_over(project, uses_of(project, choice))]
    return [board_of(project, choice, [rows[a][mode] for a, mode in enumerate(choice)]) for choice in choices]


def amounts_at(project, boards):
    """The function that tells for a board at some places (time, cost, and each use of a stock)."""
    costs = {board.choice: modes_cost(project, board.choice) for board in boards}
    uses = {board.choice: uses_of(project, board.choice) for board in boards}

    def told_at(board, places):
        ends = ends_at(board, places)
        return (max(ends), costs[board.choice] + ends_cost(project, ends)) + uses[board.choice]

    return told_at


def is_nowhere_more(ones, others):
    """Whether of some numbers none is more than that of the others."""
    for one, other in zip(ones, others):
        if one > other:
            return False
    return True


def unbeaten(boards, told_at):
    """What is told of plans that keep a project and is nowhere more than for another plan, in ascending order.

    Each one comes once, with the board and the places of a plan. As the least one
    comes first, none that comes later beats one that has come.
    """
    found = []

    def worth(board, places):
        told = told_at(board, places)
        for row in found:
            if is_nowhere_more(row[0], told):
                return None
        return told

    search = search_of(boards, worth)
    best = search.next_good(worth)
    while best is not None:
        found.append(best)
        best = search.next_good(worth)
    return found


def plan_of(best):
    """The worth, the choice and the starts of the plan of a search, None for none."""
    if best is None:
        return None
    worth, board, places = best
    return worth, board.choice, starts_at(board, places)


def trade_offs(project):
    """The accounts that are beaten by no other plan, each with a plan."""
    need_project(project)
    boards = all_boards(project, None)
    rows = []
    for best in unbeaten(boards, amounts_at(project, boards)):
        told, choice, starts = plan_of(best)
        rows.append(((told[0], told[1], told[2:]), choice, starts))
    return rows


def shortest(project, *, cost=None):
    """The least time of a plan of at most a cost, with its choice and its starts, or None."""
    need_project(project)
    need_limit(cost, "cost")
    boards = all_boards(project, None)
    told_at = amounts_at(project, boards)

    def worth(board, places):
        told = told_at(board, places)
        return told[0] if cost is None or told[1] <= cost else None

    return plan_of(best_of(boards, worth))


def cheapest(project, *, most=None):
    """The least cost of a plan that has ended at most at a time, with its choice and its starts, or None."""
    need_project(project)
    need_limit(most, "most")
    boards = all_boards(project, most)
    told_at = amounts_at(project, boards)
    return plan_of(best_of(boards, lambda board, places: told_at(board, places)[1]))


def cost_curve(project):
    """The times that buy a lesser cost, each with this cost."""
    need_project(project)
    boards = all_boards(project, None)
    told_at = amounts_at(project, boards)
    return [best[0] for best in unbeaten(boards, lambda board, places: told_at(board, places)[:2])]
