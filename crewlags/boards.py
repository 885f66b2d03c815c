"""Boards: the spots of the activities of a project with chosen modes, and how they lie to one another.

The PLACE of an activity is the index of its spot. That the place of one activity is
no less than what a TABLE tells for the place of another one is a PULL: by the first
is meant that which pulls. As no table ever falls, the least places that keep all
pulls are found by lifting alone.
"""

from crewlags.couples import both_ways, couples


class Board:
    """The spots of each activity, the pulls of the lags, and the blocks, once they have been learned.

    least_end is one that no plan is ahead of, as far as that is known. behind has for two
    members of a block the table of the first that pulls the second behind itself. closes
    has for each block what are_close asks for, for each two members.
    """

    def __init__(self, ground, tables, choice, spots, pulls):
        self.ground = ground
        self.tables = tables
        self.choice = choice
        self.spots = spots
        self.sizes = [len(row) for row in spots]
        self.pulls = pulls
        self.least_end = 0
        self.blocks = None
        self.behind = {}
        self.closes = []

    def learn(self):
        """Finds out the blocks: a search never asks for those of many boards."""
        if self.blocks is None:
            blocks = self.ground.find_blocks(self.choice)
            pairs = {pair: True for block in blocks for pair in both_ways(block)}
            ties = self.ground.pair_ties
            self.behind = {pair: self.tables.told(ties[pair], self.choice, self.spots) for pair in pairs}
            self.take(blocks)

    def take(self, blocks):
        """Takes the blocks, behind being known."""
        behind = self.behind
        self.blocks = blocks
        self.closes = [[(a, b, behind[a, b], behind[b, a]) for a, b in couples(block)] for block in blocks]


def board_of(ground, tables, choice, spots):
    """The board of some spots."""
    pulls = [(tie.by, tie.to, tables.told(tie, choice, spots)) for tie in ground.lags]
    return Board(ground, tables, choice, spots, pulls)


def mirrored_table(table, many):
    """The table of a pull, so many places being pulled, when all places are counted from the last one on."""
    return [len([at for at in table if at > place]) for place in range(many - 1, -1, -1)]


def mirrored(board):
    """The board with all places counted from the last one on: its least places are the greatest ones."""
    board.learn()
    sizes = board.sizes
    pulls = [(to, by, mirrored_table(table, sizes[to])) for by, to, table in board.pulls]
    told = Board(board.ground, board.tables, board.choice, [row[::-1] for row in board.spots], pulls)
    told.behind = {(b, a): mirrored_table(table, sizes[b]) for (a, b), table in board.behind.items()}
    told.take(board.blocks)
    return told


def lifted(board, places, ahead):
    """The least places from some on that keep all pulls, and the pairs ahead, or None."""
    pulls = board.pulls + [(a, b, board.behind[a, b]) for a, b in ahead]
    places = list(places)
    waiting = True
    while waiting:
        waiting = False
        for by, to, table in pulls:
            at = table[places[by]]
            if at > places[to]:
                if at == board.sizes[to]:
                    return None
                places[to] = at
                waiting = True
    return places


def least_places(board):
    """The least places that keep all pulls, or None."""
    if 0 in board.sizes:
        return None
    return lifted(board, [0] * len(board.sizes), ())


def are_close(places, rows):
    """Whether of each two activities neither one comes behind the other one, their tables being told."""
    for a, b, one, other in rows:
        if places[b] >= one[places[a]] or places[a] >= other[places[b]]:
            return False
    return True


def first_block(board, places):
    """The first block of which each two members are close to one another, or None."""
    board.learn()
    for block, rows in zip(board.blocks, board.closes):
        if are_close(places, rows):
            return block
    return None


def starts_at(board, places):
    """The starts of the spots at some places."""
    return tuple([row[at][0] for row, at in zip(board.spots, places)])


def ends_at(board, places):
    """The ends of the spots at some places."""
    return tuple([row[at][1] for row, at in zip(board.spots, places)])
