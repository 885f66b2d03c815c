"""Shapes as texts, and texts as shapes."""

from crewlags.errors import NoShape, NoText
from crewlags.kinds import is_name
from crewlags.shapes import Shape

FIGURES = "0123456789"
GREATEST = 1000
WORDS = ("activity", "before", "machine", "worker", "ask")


def ask_line(name, ask):
    """The line of what an activity asks for."""
    return " ".join(["ask", name] + [f"{skill}:{many}" for skill, many in ask])


def all_lines(shape):
    """The lines of the text of a shape."""
    names = shape.names
    lines = [f"activity {name}" for name in names]
    lines.extend([f"before {names[a]} {names[b]}" for a, b in shape.before])
    for capacity, demands in shape.machines:
        lines.append(" ".join(["machine", str(capacity)] + [str(demand) for demand in demands]))
    lines.extend([" ".join(["worker"] + list(worker)) for worker in shape.crew])
    lines.extend([ask_line(name, ask) for name, ask in zip(names, shape.asks)])
    return lines


def is_integer(word):
    """Whether a word is an integer from 0 to the greatest one, as it is written."""
    if not 1 <= len(word) <= len(str(GREATEST)) or not all([sign in FIGURES for sign in word]):
        return False
    return str(int(word)) == word and int(word) <= GREATEST


def ask_of(word):
    """The skill and the number that a word asks for, or None."""
    skill, _, many = word.partition(":")
    if not is_name(skill) or not is_integer(many):
        return None
    return skill, int(many)


class Draft:
    """What the lines of a text have told so far. The place is that of the word of the last line among all words."""

    def __init__(self):
        self.place = 0
        self.names = []
        self.before = []
        self.machines = []
        self.crew = []
        self.asks = []

    def take_activity(self, words):
        """Takes the name of an activity; tells whether it is one."""
        if len(words) != 1 or not is_name(words[0]):
            return False
        self.names.append(words[0])
        return True

    def take_before(self, words):
        """Takes the names of two activities; tells whether they are that."""
        if len(words) != 2 or not all([word in self.names for word in words]):
            return False
        self.before.append((self.names.index(words[0]), self.names.index(words[1])))
        return True

    def take_machine(self, words):
        """Takes a capacity and the demands; tells whether they are that."""
        if len(words) != len(self.names) + 1 or not all([is_integer(word) for word in words]):
            return False
        self.machines.append((int(words[0]), tuple([int(word) for word in words[1:]])))
        return True

    def take_worker(self, words):
        """Takes skills; tells whether they are that."""
        if not all([is_name(word) for word in words]):
            return False
        self.crew.append(tuple(words))
        return True

    def take_ask(self, words):
        """Takes the name of the next activity and what it asks for; tells whether they are that."""
        place = len(self.asks)
        if place == len(self.names) or words[:1] != [self.names[place]]:
            return False
        ask = [ask_of(word) for word in words[1:]]
        if None in ask:
            return False
        self.asks.append(tuple(ask))
        return True

    def take(self, line):
        """Takes a line; tells whether it can stand there."""
        words = line.split(" ")
        if words[0] not in WORDS or WORDS.index(words[0]) < self.place:
            return False
        self.place = WORDS.index(words[0])
        if words[0] == "activity":
            return self.take_activity(words[1:])
        if words[0] == "before":
            return self.take_before(words[1:])
        if words[0] == "machine":
            return self.take_machine(words[1:])
        if words[0] == "worker":
            return self.take_worker(words[1:])
        return self.take_ask(words[1:])

    def lacks_asks(self):
        """Whether some activities have their asks, and others have not."""
        return 0 < len(self.asks) < len(self.names)


def draft_of(text):
    """What a text tells; raises NoText with the first line that cannot stand there."""
    draft = Draft()
    lines = text.split("\n")
    last = len(lines) - 1
    for at, line in enumerate(lines[:-1]):
        if not draft.take(line):
            raise NoText(at)
    if lines[last] != "" or draft.lacks_asks():
        raise NoText(last)
    return draft


def shape_text(shape):
    """The text of a shape."""
    if not isinstance(shape, Shape):
        raise NoShape("shape", -1)
    return "".join([f"{line}\n" for line in all_lines(shape)])


def read_shape(text):
    """The Shape whose text it is."""
    if not isinstance(text, str):
        raise NoText(-1)
    told = draft_of(text)
    try:
        return Shape(told.names, before=told.before, machines=told.machines, crew=told.crew, asks=told.asks)
    except NoShape:
        raise NoText(-1) from None
