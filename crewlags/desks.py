"""Desks at which a shape is changed."""

from crewlags.errors import NoChange, NoShape
from crewlags.kinds import is_index
from crewlags.shapes import Shape, allowed_sets, need_shape


def changed(word, shape, before, machines, crew, asks):
    """The shape with other parts; raises NoChange with a word if there is no such shape."""
    try:
        return Shape(shape.names, before=before, machines=machines, crew=crew, asks=asks)
    except NoShape:
        raise NoChange(word) from None


def need_place(word, index, many):
    """Raises NoChange with a word if it is no index of one of so many items."""
    if not is_index(index, many):
        raise NoChange(word)


def not_among(sets, others):
    """Those of some sets that are none of the others."""
    return [some for some in sets if some not in others]


class Desk:
    """A shape, the ones that it was before, and those that were taken back."""

    def __init__(self, shape):
        need_shape(shape)
        self.shapes = [shape]
        self.place = 0

    def take(self, shape):
        """Goes on with another shape; what was taken back is gone."""
        self.shapes = self.shapes[:self.place + 1] + [shape]
        self.place += 1

    def shape_now(self):
        """The Shape as it is."""
        return self.shapes[self.place]

    def add_pair(self, one, other):
        """Puts a pair behind the others of before."""
        now = self.shape_now()
        before = now.before + ((one, other),)
        self.take(changed("add_pair", now, before, now.machines, now.crew, now.asks))

    def drop_pair(self, index):
        """Takes a pair of before away."""
        now = self.shape_now()
        need_place("drop_pair", index, len(now.before))
        before = now.before[:index] + now.before[index + 1:]
        self.take(changed("drop_pair", now, before, now.machines, now.crew, now.asks))

    def put_machine(self, index, capacity, demands):
        """Puts a machine in the place of one, or behind the last one."""
        now = self.shape_now()
        need_place("put_machine", index, len(now.machines) + 1)
        machines = now.machines[:index] + ((capacity, demands),) + now.machines[index + 1:]
        self.take(changed("put_machine", now, now.before, machines, now.crew, now.asks))

    def hire(self, skills):
        """Puts a worker behind the others."""
        now = self.shape_now()
        self.take(changed("hire", now, now.before, now.machines, now.crew + (skills,), now.asks))

    def dismiss(self, index):
        """Takes a worker away."""
        now = self.shape_now()
        need_place("dismiss", index, len(now.crew))
        crew = now.crew[:index] + now.crew[index + 1:]
        self.take(changed("dismiss", now, now.before, now.machines, crew, now.asks))

    def put_asks(self, asks):
        """Puts other asks."""
        now = self.shape_now()
        self.take(changed("put_asks", now, now.before, now.machines, now.crew, asks))

    def undo(self):
        """Takes back the last change that has not been taken back; tells whether there was one."""
        if self.place == 0:
            return False
        self.place -= 1
        return True

    def redo(self):
        """Does again the last change that was taken back; tells whether there was one."""
        if self.place + 1 == len(self.shapes):
            return False
        self.place += 1
        return True

    def moved_sets(self):
        """The allowed sets of the first shape that are none now, and those of now that were none then."""
        ones, others = allowed_sets(self.shapes[0]), allowed_sets(self.shape_now())
        return not_among(ones, others), not_among(others, ones)
