"""How many plans there are: the places of an activity are the bits of an integer."""

from crewlags.accounts import stocks_over, uses_of
from crewlags.boards import board_of
from crewlags.couples import couples
from crewlags.grounds import Ground, Tables
from crewlags.masks import bit_count, members
from crewlags.needs import need_limit
from crewlags.projects import need_choice, need_project
from crewlags.ties import all_spots


def low_bits(many):
    """The bits of so many places, from the first one on."""
    return (1 << many) - 1


def reach(table, place):
    """How many places pull nothing beyond a place."""
    return len([at for at in table if at <= place])


def close_masks(board, a, b):
    """For each place of one member of a block the places of another one that are close to it."""
    one, other = board.behind[a, b], board.behind[b, a]
    return [low_bits(at) & ~low_bits(reach(other, place)) for place, at in enumerate(one)]


def fit_masks(board, a, b):
    """For each place of an activity the places of another one with which nothing about the two alone is wrong."""
    masks = [low_bits(board.sizes[b])] * board.sizes[a]
    for by, to, table in board.pulls:
        if (by, to) == (a, b):
            masks = [mask & ~low_bits(at) for mask, at in zip(masks, table)]
        elif (by, to) == (b, a):
            masks = [mask & low_bits(reach(table, place)) for place, mask in enumerate(masks)]
    if (a, b) in board.blocks:
        masks = [mask & ~close for mask, close in zip(masks, close_masks(board, a, b))]
    return masks


class Masks:
    """What fits beside what, and what is close to what, for each activity and each later one."""

    def __init__(self, board):
        self.sizes = board.sizes
        self.fit_rows = {(a, b): fit_masks(board, a, b) for a, b in couples(list(range(len(board.sizes))))}
        self.larger = [block for block in board.blocks if len(block) > 2]
        pairs = {pair: True for block in self.larger for pair in couples(block)}
        self.close_rows = {(a, b): close_masks(board, a, b) for a, b in pairs}


def close_to_all(masks, block, places):
    """The places of the last member of a block that are close to all others, if these are so to one another."""
    others = list(block[:-1])
    for a, b in couples(others):
        if not masks.close_rows[a, b][places[a]] >> places[b] & 1:
            return 0
    close = low_bits(masks.sizes[block[-1]])
    for a in others:
        close &= masks.close_rows[a, block[-1]][places[a]]
    return close


def fitting(masks, places):
    """The places of the next activity that fit beside those ahead of it."""
    b = len(places)
    fit = low_bits(masks.sizes[b])
    for a, at in enumerate(places):
        fit &= masks.fit_rows[a, b][at]
    for block in masks.larger:
        if block[-1] == b:
            fit &= ~close_to_all(masks, block, places)
    return fit


def count_behind(masks, places):
    """How many rows of places that fit begin with these."""
    fit = fitting(masks, places)
    if len(places) + 1 == len(masks.sizes):
        return bit_count(fit)
    return sum([count_behind(masks, places + (at,)) for at in members(fit)])


def count_plans(project, choice, *, most=None):
    """How many plans with this choice keep the project and have ended at most at a time."""
    need_project(project)
    need_choice(project, choice)
    need_limit(most, "most")
    if stocks_over(project, uses_of(project, choice)):
        return 0
    board = board_of(Ground(project), Tables(), choice, all_spots(project, choice, most))
    board.learn()
    return count_behind(Masks(board), ())
