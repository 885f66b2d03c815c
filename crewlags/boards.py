"""Boards: the spots of the activities of a project with chosen modes, and how they lie to one another.

The PLACE of an activity is the index of its spot. That the place of one activity is
no less than what a TABLE tells for the place of another one is a PULL: by the first
is meant that which pulls. As no table ever falls, the least places that keep all
pulls are found by lifting alone. A BLOCK is a set of activities of which not each
two may be close to one another: in any plan that keeps the project one member of
each block comes behind another one.
"""

from crewlags.couples import both_ways, couples
from crewlags.projects import shape_of
from crewlags.shapes import forbidden_cores, without_larger
from crewlags.ties import ahead_ties, lag_ties


class Board:
    """The spots of each activity, the pulls of the lags, and the blocks.

    behind has for two members of a block the table of the first that pulls the second
    behind itself. closes has for each block what are_close asks for, for each two members.
    """

    def __init__(self, choice, spots, pulls, behind, blocks):
        self.choice = choice
        self.spots = spots
        self.sizes = [len(row) for row in spots]
        self.pulls = pulls
        self.behind = behind
        self.blocks = blocks
        self.closes = [[(a, b, behind[a, b], behind[b, a]) for a, b in couples(block)] for block in blocks]


def table_of(tie, spots):
    """For each place of what pulls the least place of what is pulled; their number if there is none."""
    table = []
    at = 0
    pulled = spots[tie.to]
    for spot in spots[tie.by]:
        while at < len(pulled) and not tie.fits(spot, pulled[at]):
            at += 1
        table.append(at)
    return table


def pulls_of(ties, spots):
    """The pulls of some ties."""
    return [(tie.by, tie.to, table_of(tie, spots)) for tie in ties]


def single_pairs(project):
    """The sets of two activities of which only one may go on at a time."""
    return [pair for members, _ in project.singles for pair in couples(members)]


def block_sets(project, choice):
    """The blocks, those with the fewest members first, without those that have another one as a part."""
    return without_larger(single_pairs(project) + forbidden_cores(shape_of(project, choice)))


def pairs_behind(sets):
    """All pairs of two members of one of some sets, in both directions."""
    return list({pair: True for some in sets for pair in both_ways(some)})


def board_of(project, choice, spots):
    """The board of the told spots."""
    sets = block_sets(project, choice)
    pairs = pairs_behind(sets)
    pulls = pulls_of(ahead_ties(project, pairs), spots)
    behind = {pair: table for pair, (_, _, table) in zip(pairs, pulls)}
    return Board(choice, spots, pulls_of(lag_ties(project), spots), behind, sets)


def mirrored_table(table, many):
    """The table of a pull, so many places being pulled, when all places are counted from the last one on."""
    return [len([at for at in table if at > place]) for place in range(many - 1, -1, -1)]


def mirrored(board):
    """The board with all places counted from the last one on: its least places are the greatest ones."""
    sizes = board.sizes
    pulls = [(to, by, mirrored_table(table, sizes[to])) for by, to, table in board.pulls]
    behind = {(b, a): mirrored_table(table, sizes[b]) for (a, b), table in board.behind.items()}
    return Board(board.choice, [row[::-1] for row in board.spots], pulls, behind, board.blocks)


def lifted(board, places, ahead):
    """The least places from some on that keep all pulls, and the pairs ahead, or None."""
    pulls = board.pulls + [(a, b, board.behind[a, b]) for a, b in ahead]
    places = list(places)
    waiting = True
    while waiting:
        waiting = False
        for by, to, table in pulls:
            at = table[places[by]]
            if at > places[to]:
                if at == board.sizes[to]:
                    return None
                places[to] = at
                waiting = True
    return places


def least_places(board):
    """The least places that keep all pulls, or None."""
    if 0 in board.sizes:
        return None
    return lifted(board, [0] * len(board.sizes), ())


def are_close(places, rows):
    """Whether of each two activities neither one comes behind the other one, their tables being told."""
    for a, b, one, other in rows:
        if places[b] >= one[places[a]] or places[a] >= other[places[b]]:
            return False
    return True


def first_block(board, places):
    """The first block of which each two members are close to one another, or None."""
    for block, rows in zip(board.blocks, board.closes):
        if are_close(places, rows):
            return block
    return None


def starts_at(board, places):
    """The starts of the spots at some places."""
    return tuple([row[at][0] for row, at in zip(board.spots, places)])


def ends_at(board, places):
    """The ends of the spots at some places."""
    return tuple([row[at][1] for row, at in zip(board.spots, places)])
