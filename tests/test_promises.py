"""[13]: which promises hold, and that what breaks the others does so."""

import unittest

from journeys import KINDS, PAIRS, add, letters_in, made_world
from worldbridge.bridge import Bridge
from worldbridge.errors import BadWorld, Fallen
from worldbridge.lines import Book, Line
from worldbridge.promises import broken, held

WRONG = ["", "rows", "boxes", "abc", 0, 7, True, False, None, (), ("rows",), ("boxes",), (True,), ("rows", True, True),
         (True, "rows"), ("rows", 1), ("rows", 0), ("boxes", "True"), ("boxes", None), ("Rows", True), ("row", True),
         ("", False), (0, True), (True, True), (None, False), (("rows", True),), (("rows",), True), ("rows", (True,))]


class Events:
    """Does what broken tells, with worlds 1 and 2."""

    def __init__(self, source, target):
        self.source, self.target = made_world(source, 1), made_world(target, 2)
        self.here, self.there, self.book = Line(self.source), Line(self.target), Book()
        self.numbers = []
        self.anew()

    def anew(self):
        self.bridge = Bridge(self.here, self.there, self.book, [("over", 0, 0)])

    def step(self):
        try:
            self.bridge.step(0)
        except Fallen:
            self.anew()

    def turn(self):
        self.source.turn()

    def letter(self, number):
        add(self.source, 0, (1, 0, number), 0)
        self.numbers.append(number)

    def here_armed(self, words):
        assert isinstance(words, tuple)
        self.here.arm(list(words))

    def there_armed(self, words):
        assert isinstance(words, tuple)
        self.there.arm(list(words))

    def all_done(self, events):
        calls = {"letter": self.letter, "here": self.here_armed, "there": self.there_armed, "step": self.step,
                 "turn": self.turn, "anew": self.anew}
        for word, *more in events:
            calls[word](*more)
        return [key[2] for key, body in letters_in(self.target, 0)]


class Held(unittest.TestCase):
    def test_all_pairs_of_kinds(self):
        wanted = {("rows", "once"): (True, True, True), ("rows", "more"): (True, False, True),
                  ("boxes", "once"): (True, True, False), ("boxes", "more"): (True, False, False)}
        for source, target in PAIRS:
            told = held(source, target)
            self.assertEqual(told, wanted[source[0], "more" if target == ("boxes", False) else "once"])
            self.assertTrue(all(isinstance(truth, bool) for truth in told) and isinstance(told, tuple))

    def test_as_worlds_tell_their_kinds(self):
        for source, target in PAIRS:
            told = held(made_world(source, 1).kind(), Line(made_world(target, 2)).kind())
            self.assertEqual(told, held(source, target))

    def test_other_kinds(self):
        for wrong in WRONG:
            for call in (held, broken):
                for right in KINDS:
                    with self.subTest(wrong=wrong), self.assertRaises(BadWorld):
                        call(wrong, right)
                    with self.subTest(wrong=wrong), self.assertRaises(BadWorld):
                        call(right, wrong)
                with self.assertRaises(BadWorld):
                    call(wrong, wrong)


class Broken(unittest.TestCase):
    def test_none_for_what_holds_and_events_for_what_does_not(self):
        for source, target in PAIRS:
            told = broken(source, target)
            self.assertIsInstance(told, tuple)
            self.assertEqual(tuple(events is None for events in told), held(source, target)[1:])

    def test_events_are_of_the_form_that_is_told(self):
        forms = {"letter": int, "here": tuple, "there": tuple, "step": None, "turn": None, "anew": None}
        for source, target in PAIRS:
            for events in broken(source, target):
                self.assertIsInstance(events, (list, type(None)))
                for event in events or []:
                    self.assertIsInstance(event, tuple)
                    self.assertEqual([type(part) for part in event[1:]], [forms[event[0]]] if forms[event[0]] else [])
                    if event[0] in ("here", "there"):
                        self.assertLessEqual(set(event[1]), {"good", "lost", "deaf", "fall", "end"})
                    # Only boxes have turns.
                    self.assertTrue(event[0] != "turn" or source[0] == "boxes")

    def test_each_comes_once_is_broken(self):
        for source, target in PAIRS:
            events = broken(source, target)[0]
            if events:
                letters = Events(source, target).all_done(events)
                self.assertGreater(len(letters), len(set(letters)), (source, target))

    def test_the_order_is_broken(self):
        for source, target in PAIRS:
            events = broken(source, target)[1]
            if events:
                done = Events(source, target)
                firsts = list(dict.fromkeys(done.all_done(events)))
                self.assertEqual(sorted(firsts), sorted(done.numbers), "none is lost")
                self.assertNotEqual(firsts, done.numbers, (source, target))

    def test_the_same_events_break_nothing_where_it_is_held(self):
        """They break it by the kinds of the worlds, and by nothing else."""
        for source, target in PAIRS:
            for other in KINDS:
                for number, events in enumerate(broken(source, other)):
                    if events and held(source, target)[1 + number]:
                        letters = Events(source, target).all_done(events)
                        if number == 0:
                            self.assertEqual(len(letters), len(set(letters)))

    def test_told_lists_may_be_spoilt(self):
        for source, target in PAIRS:
            before = broken(source, target)
            for events in broken(source, target):
                if events:
                    events.clear()
            self.assertEqual(broken(source, target), before)


if __name__ == "__main__":
    unittest.main()
