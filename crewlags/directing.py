"""Directing the pairs of a graph, so that they become an order.

If one stands in a pair with each of two that are no pair themselves, it is
ahead of both or behind both: else the two would be a pair. So the direction
of a pair forces those of others. For each directed pair we keep which missing
pairs have forced it: where both directions are forced, there is no order
unless one of the missing pairs comes into the graph.
"""

from crewlags.masks import PAIR_BITS, members


def neighbours(many, mask):
    """For each of so many activities the mask of those with which it is a pair."""
    return [sum([1 << b for b in range(many) if mask & PAIR_BITS[a][b]]) for a in range(many)]


class Directing:
    """The directions that the pairs of a graph have so far.

    ahead and behind tell them by masks, why the missing pairs that have forced
    a direction. fault is None, or the mask of missing pairs of which one has to
    come into the graph, because both directions of a pair are forced.
    """

    def __init__(self, near):
        self.near = near
        self.ahead = [0] * len(near)
        self.behind = [0] * len(near)
        self.why = {}
        self.fault = None
        self.waiting = []

    def again(self):
        """A Directing of its own in the same state, with nothing waiting."""
        other = Directing(self.near)
        other.ahead = list(self.ahead)
        other.behind = list(self.behind)
        other.why = {pair: self.why[pair] for pair in self.why}
        return other

    def put(self, one, other, missing):
        """Puts one ahead of other, as the missing pairs force it."""
        if self.ahead[one] >> other & 1:
            self.fault = missing | self.why[(other, one)]
        elif not self.behind[one] >> other & 1:
            self.behind[one] |= 1 << other
            self.ahead[other] |= 1 << one
            self.why[(one, other)] = missing
            self.waiting.append((one, other))

    def follow(self, one, other):
        """Puts what is forced by one ahead of other."""
        near, ahead, behind = self.near, self.ahead, self.behind
        missing = self.why[(one, other)]
        later = near[one] & ~behind[one]
        if later:
            for a in members(later & ~near[other]):
                self.put(one, a, missing | PAIR_BITS[other][a])
            for a in members(later & behind[other]):
                self.put(one, a, missing | self.why[(other, a)])
        earlier = near[other] & ~ahead[other]
        if earlier:
            for a in members(earlier & ~near[one]):
                self.put(a, other, missing | PAIR_BITS[one][a])
            for a in members(earlier & ahead[one]):
                self.put(a, other, missing | self.why[(a, one)])

    def settle(self, pairs):
        """Puts the first of each of the pairs ahead of the second, and all that this forces."""
        for one, other in pairs:
            self.put(one, other, 0)
        at = 0
        while self.fault is None and at < len(self.waiting):
            one, other = self.waiting[at]
            self.follow(one, other)
            at += 1
        self.waiting = []

    def first_open(self):
        """The first pair that has no direction yet, or None."""
        for one, mask in enumerate(self.near):
            rest = mask & ~self.ahead[one] & ~self.behind[one]
            if rest:
                return one, members(rest)[0]
        return None


def completed(state):
    """The state with all pairs directed, as the first order has them, or with a fault.

    Which order is first is settled by the first pair in which two of them differ,
    so each pair in turn has its lesser member first, if there is such an order.
    """
    pair = state.first_open()
    if state.fault is not None or pair is None:
        return state
    missing = 0
    tries = [pair, (pair[1], pair[0])]
    if not state.why:
        # what the turned pair forces is just the other way round, as nothing else has a direction
        tries = [pair]
    for told in tries:
        tried = state.again()
        tried.settle([told])
        tried = completed(tried)
        if tried.fault is None:
            return tried
        missing |= tried.fault
    state.fault = missing
    return state


def directions(many, mask, ordered):
    """The first order with the pairs of a mask and the ordered ones among them, and None.

    If there is none: None, and the mask of missing pairs of which one has to
    come into the graph for that.
    """
    state = Directing(neighbours(many, mask))
    state.settle(ordered)
    state = completed(state)
    if state.fault is None:
        return sorted(list(state.why)), None
    return None, state.fault
