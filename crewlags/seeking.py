"""The search for plans that keep a project, by boards.

A NODE is a board with pairs ahead, and the least places that keep these. No plan that
keeps them starts anything earlier, so whatever can only get worse by starting later is
never better than at these places; if they are blocked nowhere, they are such a plan.
Otherwise one member of the first block comes behind another one: there is a node for
each pair of them. Nodes are looked at in the order of their worth, the least one first,
and of these those with the most pairs.

The worth of places is told by a function of a board and of places: it is never less at
later places, and None at places that are not wanted.
"""

from heapq import heappop, heappush

from crewlags.boards import first_block, least_places, lifted
from crewlags.couples import both_ways


class Search:
    """The nodes that are still to be looked at, and which ones there have been."""

    def __init__(self):
        self.queue = []
        self.seen = {}
        self.number = 0

    def put(self, worth, board, places, ahead):
        """Adds a node if its places are wanted."""
        told = worth(board, places)
        if told is not None:
            self.number += 1
            heappush(self.queue, (told, -len(ahead), self.number, board, places, ahead))

    def put_behind(self, worth, block, board, places, ahead):
        """Adds the nodes that a node leads to at which a block is one."""
        for pair in both_ways(block):
            more = tuple(sorted(ahead + (pair,)))
            if (board.choice, more) not in self.seen:
                self.seen[board.choice, more] = True
                later = lifted(board, places, more)
                if later is not None:
                    self.put(worth, board, later, more)

    def next_good(self, worth):
        """The worth, the board and the places of the next node that is blocked nowhere, or None."""
        while self.queue:
            _, _, _, board, places, ahead = heappop(self.queue)
            told = worth(board, places)
            if told is None:
                continue
            block = first_block(board, places)
            if block is None:
                return told, board, places
            self.put_behind(worth, block, board, places, ahead)
        return None


def search_of(boards, worth):
    """The search that begins with some boards."""
    search = Search()
    for board in boards:
        places = least_places(board)
        if places is not None:
            search.put(worth, board, places, ())
    return search


def best_of(boards, worth):
    """The least worth of a plan that is wanted, its board and its places, or None."""
    return search_of(boards, worth).next_good(worth)
