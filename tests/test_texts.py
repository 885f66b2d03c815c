"""[75], [76]: the texts of shapes, and which line cannot stand."""

import random
import re
import unittest

from crewlags.errors import NoShape, NoText
from crewlags.shapes import Shape
from crewlags.texts import read_shape, shape_text
from tests.support import FOUR, THREE, odd_values, raised, ring_of_seven, side_by_side, some_shape

NAME = r"[a-z][a-z0-9-]{0,11}"
INTEGER = r"(?:0|[1-9][0-9]{0,2}|1000)"
FORMS = (
    ("activity", rf"activity ({NAME})"), ("before", rf"before ({NAME}) ({NAME})"), ("machine", rf"machine((?: {INTEGER})+)"),
    ("worker", rf"worker((?: {NAME})*)"), ("ask", rf"ask ({NAME})((?: {NAME}:{INTEGER})*)"),
)
WHOLE = (
    "activity a\nactivity b-1\nactivity c\nbefore a c\nmachine 3 2 2 0\nmachine 1000 0 1000 7\nworker x y\nworker\nworker y\n"
    "ask a x:1 y:1\nask b-1\nask c y:2\n"
)


def stands(lines, last, line):
    """Whether a line can stand behind others, each as (word, its match)."""
    found = [(at, word, re.fullmatch(form, line, re.ASCII)) for at, (word, form) in enumerate(FORMS)]
    found = [(at, word, match) for at, word, match in found if match]
    if not found:
        return None
    at, word, match = found[0]
    names = [told.group(1) for other, told in lines if other == "activity"]
    if at < last:
        return None
    if word == "before" and not {match.group(1), match.group(2)} <= set(names):
        return None
    if word == "machine" and len(match.group(1).split()) != len(names) + 1:
        return None
    if word == "ask":
        place = len([1 for other, _ in lines if other == "ask"])
        if names[place:place + 1] != [match.group(1)]:
            return None
    return at, word, match


def slow_line(text):
    """The first line that cannot stand there, None if the form is right."""
    rows = text.split("\n")
    lines, last = [], 0
    for at, row in enumerate(rows[:-1]):
        told = stands(lines, last, row)
        if told is None:
            return at
        last = told[0]
        lines.append(told[1:])
    asks = [1 for word, _ in lines if word == "ask"]
    names = [1 for word, _ in lines if word == "activity"]
    if rows[-1] or (asks and len(asks) < len(names)):
        return len(rows) - 1
    return None


class ShapeText(unittest.TestCase):
    def test_each_part(self):
        for shape, text in (
            (Shape(("a",)), "activity a\n"),
            (Shape(["b", "a"]), "activity b\nactivity a\n"),
            (Shape(("a", "b"), before=((1, 0), (1, 0))), "activity a\nactivity b\nbefore b a\nbefore b a\n"),
            (Shape(("a", "b"), machines=((0, (0, 0)), (1000, (1000, 10)))),
             "activity a\nactivity b\nmachine 0 0 0\nmachine 1000 1000 10\n"),
            (Shape(("a",), crew=((), ("y", "x-1"), ("x-1",))), "activity a\nworker\nworker y x-1\nworker x-1\n"),
            (Shape(("a", "b"), asks=((), ())), "activity a\nactivity b\nask a\nask b\n"),
            (Shape(("a",), crew=(("y", "x"),) * 3, asks=((("y", 2), ("x", 1)),)),
             "activity a\nworker y x\nworker y x\nworker y x\nask a y:2 x:1\n"),
            (FOUR, "activity a\nactivity b\nactivity c\nactivity d\nbefore a b\nmachine 2 1 1 1 1\nworker weld\n"
                   "worker weld lift\nask a\nask b lift:1\nask c weld:2\nask d weld:1\n"),
        ):
            self.assertEqual(shape_text(shape), text)
            self.assertEqual(read_shape(text), shape)

    def test_example(self):
        shape = Shape(("a", "b"), before=((0, 1),), machines=((3, (2, 2)),))
        self.assertEqual(shape_text(shape), "activity a\nactivity b\nbefore a b\nmachine 3 2 2\n")

    def test_read_back(self):
        shapes = [THREE, FOUR, ring_of_seven(), side_by_side(7, 3)] + [some_shape(seed, 1 + seed % 7) for seed in range(150)]
        for shape in shapes:
            text = shape_text(shape)
            self.assertEqual(read_shape(text), shape)
            self.assertEqual(shape_text(read_shape(text)), text)
            self.assertIsNone(slow_line(text))

    def test_no_shape(self):
        for value in odd_values() + [(), [], "activity a\n"]:
            if not isinstance(value, Shape):
                self.assertEqual(raised(lambda: shape_text(value)), (NoShape, {"part": "shape", "index": -1}))


class ReadShape(unittest.TestCase):
    def fault(self, text):
        """The line that NoText tells, None if there is none."""
        told = raised(lambda: read_shape(text))
        if told is None:
            return None
        self.assertEqual(told[0], NoText)
        return told[1]["line"]

    def check(self, text, line):
        self.assertEqual(self.fault(text), line, text)

    def test_whole(self):
        shape = read_shape(WHOLE)
        self.assertEqual(shape.names, ("a", "b-1", "c"))
        self.assertEqual(shape.before, ((0, 2),))
        self.assertEqual(shape.machines, ((3, (2, 2, 0)), (1000, (0, 1000, 7))))
        self.assertEqual(shape.crew, (("x", "y"), (), ("y",)))
        self.assertEqual(shape.asks, ((("x", 1), ("y", 1)), (), (("y", 2),)))
        self.assertEqual(shape_text(shape), WHOLE)

    def test_texts_spoilt_by_chance(self):
        rnd = random.Random(1)
        texts = [WHOLE] + [shape_text(some_shape(seed, 2 + seed % 4)) for seed in range(40)]
        seen = {}
        for _ in range(6000):
            text = rnd.choice(texts)
            for _ in range(rnd.randint(1, 2)):
                lines = text.split("\n")
                kind, at, place = rnd.randint(0, 6), rnd.randrange(len(lines)), rnd.randrange(len(text) + 1)
                if kind == 0:
                    lines.insert(at, rnd.choice(lines))
                elif kind == 1:
                    lines.pop(at)
                elif kind == 2:
                    other = rnd.randrange(len(lines))
                    lines[at], lines[other] = lines[other], lines[at]
                if kind < 3:
                    text = "\n".join(lines)
                elif kind == 3:
                    text = text[:place] + text[place + 1:]
                else:
                    text = text[:place] + rnd.choice(" \nab0159:-A\r\tx_") + text[place:]
            right = slow_line(text)
            told = self.fault(text)
            if right is None:
                self.assertIn(told, (None, -1), text)
            else:
                self.assertEqual(told, right, text)
            seen[told] = seen.get(told, 0) + 1
        for line in (None, -1, 0, 1, 2, 3, 4, 5, 6):
            self.assertGreater(seen[line], 30, seen)

    def test_each_kind_of_line_in_a_wrong_place(self):
        kinds = ["activity b", "before a a", "machine 1 1", "worker x", "ask a"]
        for at, line in enumerate(kinds):
            for earlier in kinds[:at]:
                # ahead of it stands what only may stand behind it
                text = "activity a\n" + line + "\n" + earlier + "\n"
                self.check(text, 2)
        self.check("before a a\nactivity a\n", 0)
        self.check("ask a\nactivity a\n", 0)
        self.check("machine 1\nactivity a\n", 1)
        self.check("worker\nactivity a\n", 1)
        self.check(WHOLE + "worker x\n", 12)
        self.check(WHOLE + "activity d\n", 12)

    def test_unknown_words(self):
        for line in ("", "Activity a", "activities a", "a", "activity", "act a", "before", "machine", "ask", "work x", "worker:",
                     "#", "activity:a", "asks a"):
            self.check(f"activity a\n{line}\n", 1)
            self.check(f"activity a\n{line}\nactivity", 1)
            self.check(f"{line}\n", 0)

    def test_a_word_too_few_or_too_many(self):
        for line in ("activity", "activity b c", "before a", "before a a a", "machine", "machine 1", "machine 1 1 1", "ask",
                     "before"):
            self.check(f"activity a\n{line}\n", 1)
        self.check("activity a\nworker\nworker x y\nworker x y z\n", None)

    def test_blanks(self):
        for line in ("activity b", "before a a", "machine 1 1", "worker x", "worker", "ask a", "ask a x:1"):
            for spoilt in (" " + line, line + " ", line.replace(" ", "  ") + (" " if " " not in line else ""), line + "\t",
                           line.replace(" ", "\t") + ("\t" if " " not in line else "")):
                self.check(f"activity a\n{spoilt}\n", 1)
        self.check(" \n", 0)
        self.check("activity a\n ", 1)
        self.check("activity a\n \n", 1)

    def test_integers(self):
        for word in ("00", "01", "+1", "-1", "-0", "1.0", "1_0", "1e2", "0x1", "", "a", "1001", "9999", "10000", "100000000000",
                     "\u0661", "\u00b2", "\uff11", "1\u0660", "one", "1a", "01000"):
            self.check(f"activity a\nmachine {word} 0\n", 1)
            self.check(f"activity a\nmachine 5 {word}\n", 1)
            self.check(f"activity a\nworker x\nask a x:{word}\n", 2)
        for word in ("0", "1", "9", "10", "99", "100", "999", "1000"):
            self.check(f"activity a\nmachine {word} 0\n", None)
            self.check(f"activity a\nmachine 1000 {word}\n", None)
        self.assertEqual(read_shape("activity a\nmachine 1000 999\n").machines, ((1000, (999,)),))

    def test_what_the_form_allows_and_a_shape_refuses(self):
        for text in (
            "", "activity a\nactivity a\n", "".join(f"activity a{at}\n" for at in range(8)), "activity a\nbefore a a\n",
            "activity a\nactivity b\nbefore a b\nbefore b a\n", "activity a\nmachine 1 2\n", "activity a\nmachine 0 1000\n",
            "activity a\n" + "machine 1 1\n" * 5, "activity a\n" + "worker x\n" * 9, "activity a\nworker x x\n",
            "activity a\nworker a b c d e f\n", "activity a\nask a x:1\n", "activity a\nworker x\nask a x:0\n",
            "activity a\nworker x\nask a x:2\n", "activity a\nworker x\nask a x:1000\n", "activity a\nworker x\nask a x:1 x:1\n",
            "activity a\nworker x y z w\nask a x:1 y:1 z:1 w:1\n", "machine 3\n", "worker x\n", "worker\n", "machine 0\nworker\n",
            "activity a\nworker a b c\nworker d e f\n", "activity a\nactivity a\nbefore a a\n",
            "activity a\nactivity b\n" + "before a b\n" * 31, "activity a\nactivity a\nask a\nask a\n",
        ):
            self.assertIsNone(slow_line(text), text)
            self.check(text, -1)
        self.check("activity a\nactivity b\n" + "before a b\n" * 30, None)

    def test_the_form_comes_ahead_of_what_a_shape_refuses(self):
        self.check("activity a\nactivity a\nno\n", 2)
        self.check("activity a\nbefore a a\nbefore a b\n", 2)
        self.check("activity a\nmachine 1 2\nmachine 1 1001\n", 2)

    def test_names(self):
        for name in ("A", "1a", "-a", "", "a_b", "a.b", "abcdefghijklm", "a\u00e4", "\u00e4", "a:b", "a\r"):
            self.check(f"activity {name}\n", 0)
            self.check(f"activity a\nworker {name}\n", 1)
            self.check(f"activity a\nworker x\nask a {name}:1\n", 2)
            self.check(f"activity a\nbefore a {name}\n", 1)
        self.check("activity abcdefghijkl\nactivity a-1\nworker abcdefghijkl z--9\n", None)

    def test_names_told_twice_or_not_told(self):
        self.check("activity a\nactivity b\nbefore a c\n", 2)
        self.check("activity a\nactivity b\nbefore c a\n", 2)
        self.check("activity a\nactivity a\nbefore a b\n", 2)
        # the first activity of a name is meant, so this goes ahead of itself nowhere; a Shape refuses the names
        self.check("activity a\nactivity a\nactivity b\nbefore a b\n", -1)
        self.check("activity a\nactivity b\nactivity a\nask a\nask b\nask a\n", -1)
        self.check("activity a\nactivity b\nactivity a\nask a\nask a\nask b\n", 4)

    def test_too_few_and_too_many_asks(self):
        begin = "activity a\nactivity b\nactivity c\n"
        self.check(begin, None)
        self.check(begin + "ask a\n", 4)
        self.check(begin + "ask a\nask b\n", 5)
        self.check(begin + "ask a\nask b\nask c\n", None)
        self.check(begin + "ask a\nask b\nask c\nask a\n", 6)
        self.check(begin + "ask a\nask b\nask c\nask d\n", 6)
        self.check(begin + "ask b\nask c\nask a\n", 3)
        self.check(begin + "ask a\nask c\nask b\n", 4)
        self.check(begin + "ask a\nask b\nask b\n", 5)
        self.check(begin + "ask a\nworker x\n", 4)
        self.check(begin + "ask a\nask b", 4)
        self.check(begin + "ask a\nask b\nask c", 5)
        self.check("ask a\n", 0)

    def test_the_words_of_asks(self):
        for word in ("x", "x:", ":1", "x:1:1", "x:1,", "x=1", "x;1", "X:1", "x :1", "x: 1", ":", "::", "x::1", "1:x"):
            self.check(f"activity a\nworker x\nask a {word}\n", 2)
            self.check(f"activity a\nworker x\nask a x:1 {word}\n", 2)

    def test_the_end(self):
        self.check("activity a", 0)
        self.check("activity a\nactivity b", 1)
        self.check("activity a\n\n", 1)
        self.check("activity a\n\n\n", 1)
        self.check("\n", 0)
        self.check("\nactivity a\n", 0)
        self.check("activity a\n\nactivity b\n", 1)
        self.check("a", 0)
        self.check("activity a\nno", 1)

    def test_other_line_ends(self):
        self.check("activity a\r\n", 0)
        self.check("activity a\r\nactivity b\r\n", 0)
        self.check("activity a\ractivity b\r", 0)
        self.check("activity a\nactivity b\r\n", 1)
        for sign in ("\x0b", "\x0c", "\x1c", "\x85", "\u2028", "\u2029", "\x00"):
            self.check(f"activity a{sign}activity b\n", 0)
            self.check(f"activity a{sign}", 0)

    def test_no_string(self):
        for value in odd_values() + [(), [], ["activity a\n"], ("activity a\n",), b"activity a\n", None, 0, THREE]:
            if not isinstance(value, str):
                self.check(value, -1)
        self.check("", -1)
        self.check("no such", 0)

    def test_examples(self):
        self.assertEqual(raised(lambda: read_shape("activity a")), (NoText, {"line": 0}))
        self.assertEqual(raised(lambda: read_shape("")), (NoText, {"line": -1}))
        told = read_shape("activity a\nactivity b\nbefore a b\nmachine 3 2 2\n")
        self.assertEqual(told, Shape(("a", "b"), before=((0, 1),), machines=((3, (2, 2)),)))


if __name__ == "__main__":
    unittest.main()
