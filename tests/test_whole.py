"""[1] and the interface, over the whole program."""

import importlib
import inspect
import unittest

from journeys import PAIRS, Journey, letters_in
from worldbridge.bridge import Bridge
from worldbridge.lines import Book, Line
from worldbridge.worlds import Boxes, Rows

CLASSES = {
    "worlds.Rows": ("name knows", {"write": "row key body", "long": "row", "name": "", "read": "row place many",
                                   "kind": ""}),
    "worlds.Boxes": ("name knows lease", {"put": "box key body", "turn": "", "take": "box", "done": "ticket",
                                          "left": "box", "kind": "", "name": ""}),
    "lines.Line": ("world", {"write": "row key body", "read": "row place many", "long": "row", "put": "box key body",
                             "take": "box", "done": "ticket", "name": "", "kind": "", "arm": "words", "calls": ""}),
    "lines.Book": ("", {"put": "slot worth", "arm": "many", "get": "slot"}),
    "bridge.Bridge": ("here there book ways", {"step": "number", "doubtful": "number"}),
}
FUNCTIONS = {"promises.held": "source target", "promises.broken": "source target", "promises.reaches": "ways start",
             "promises.shortest": "ways start goal", "notes.written": "ways", "notes.read": "text"}


def found(path):
    file, name = path.split(".")
    return getattr(importlib.import_module("worldbridge." + file), name)


def arguments(function):
    return " ".join(inspect.signature(function).parameters)


class Interface(unittest.TestCase):
    def test_classes(self):
        for path, (made, methods) in CLASSES.items():
            self.assertEqual(arguments(found(path)), made, path)
            for name, wanted in methods.items():
                self.assertEqual(arguments(vars(found(path))[name]), ("self " + wanted).strip(), (path, name))

    def test_functions(self):
        for path, wanted in FUNCTIONS.items():
            self.assertEqual(arguments(found(path)), wanted, path)


class Worked(unittest.TestCase):
    def story(self, kinds):
        """A work with failures, and all that is told on the way."""
        journey = Journey(self, {1: kinds[0], 2: kinds[1]}, 2)
        words = ["good", "deaf", "good", "good", "lost", "end", "good", "fall"]
        crossing = journey.crossing(1, 2, [("over", 0, 0), ("back", 1, 1)], (words, words[::-1], [1, 2]))
        told = []
        for number in range(12):
            if number < 6:
                journey.letter(1, 0, (1 + number % 3, 0, number))
                journey.letter(2, 1, (3 - number % 3, 1, number))
            told += [journey.step(crossing, way) for way in (0, 1)]
            told += [crossing.bridge.doubtful(way) for way in (0, 1)] + [journey.everything(), crossing.counts()]
            journey.turns()
        return told

    def test_the_same_is_told_each_time(self):
        for kinds in PAIRS:
            self.assertEqual(self.story(kinds), self.story(kinds))

    def test_bridges_share_nothing_but_what_they_are_made_of(self):
        here, there = Line(Rows(1, False)), Line(Boxes(2, False, 1))
        here.world.write(0, (1, 0, 0), 1)
        ways = [("over", 0, 0)]
        for time in (1, 2):
            # Another book knows nothing of what was brought.
            bridge = Bridge(here, there, Book(), ways)
            self.assertEqual([bridge.step(0), bridge.step(0)], [True, False])
            self.assertEqual(len(letters_in(there.world, 0)), time)
        self.assertEqual(ways, [("over", 0, 0)])

    def test_asking_changes_nothing(self):
        for kinds in PAIRS:
            journey = Journey(self, {1: kinds[0], 2: kinds[1]})
            crossing = journey.crossing(1, 2, [("over", 0, 0)])
            journey.letter(1, 0, (1, 0, 0))
            before = (journey.everything(), crossing.counts())
            for time in range(3):
                self.assertEqual(crossing.bridge.doubtful(0), [])
                self.assertEqual((journey.everything(), crossing.counts()), before)


if __name__ == "__main__":
    unittest.main()
