"""[8] and [9]: how a bridge is made, and what step and doubtful tell."""

import itertools
import unittest

from journeys import KINDS, PAIRS, add, letters_in, made_world
from values import NO_NUMBERS
from worldbridge.bridge import Bridge
from worldbridge.errors import BadWays, Fallen
from worldbridge.lines import Book, Line

WRONG_WAYS = ["", "over", "over 0 0", 0, 5, True, None, (), ("over",), ("over", 0), ("over", 0, 0, 0), (0, 0, 0),
              (0, "over", 0), ("Over", 0, 0), ("", 0, 0), ("forth", 0, 0), (True, 0, 0), (None, 0, 0), ("over", -1, 0),
              ("over", 6, 0), ("back", 0, 6), ("back", 0, -1), ("over", True, 0), ("back", 0, False), ("over", "0", 0),
              ("over", 0, "0"), ("over", None, 0), ("over", (0,), 0), (("over", 0, 0),), (("over",), 0, 0),
              ("over", 10 ** 5000, 0)]
A, B, C = (1, 0, 0), (1, 0, 1), (3, 0, 2)


def lines(here=("rows", False), there=("rows", False), names=(1, 2), lease=1):
    return Line(made_world(here, names[0], lease)), Line(made_world(there, names[1], lease))


def bridge_of(ways, here=("rows", False), there=("rows", False)):
    return Bridge(*lines(here, there), Book(), ways)


class Made(unittest.TestCase):
    def refused(self, ways, here, there):
        one, other = lines(here, there)
        book = Book()
        book.arm(0)
        with self.assertRaises(BadWays):
            Bridge(one, other, book, ways)
        self.assertEqual((one.calls(), other.calls()), (0, 0))

    def test_each_way_alone(self):
        for here, there in PAIRS:
            for word, start, goal in itertools.product(("over", "back"), range(6), range(6)):
                self.assertIs(bridge_of([(word, start, goal)], here, there).step(0), False)

    def test_wrong_ways_alone_and_beside_others(self):
        for here, there in ((KINDS[0], KINDS[0]), (KINDS[1], KINDS[3]), (KINDS[3], KINDS[2])):
            for way in WRONG_WAYS:
                for ways in ([way], [("over", 1, 1), way], [way, ("back", 2, 2)],
                             [("over", 1, 1), way, ("over", 3, 3)]):
                    self.refused(ways, here, there)

    def test_no_lists(self):
        for ways in ("", "over 0 0", 0, 1, True, None, (), (("over", 0, 0),), ("over", 0, 0)):
            self.refused(ways, KINDS[0], KINDS[0])

    def test_none_and_more_than_six(self):
        six = [("over", row, row) for row in range(6)]
        for here, there in PAIRS:
            self.refused([], here, there)
            for many in range(1, 7):
                bridge_of(six[:many], here, there)
        for ways in (six + [("back", 0, 0)], six + [("back", row, row) for row in range(6)]):
            self.refused(ways, KINDS[0], KINDS[0])

    def test_two_of_one_direction_at_one(self):
        for here, there in PAIRS:
            for word in ("over", "back"):
                for first, second in (((0, 1), (0, 2)), ((1, 0), (2, 0)), ((3, 4), (3, 4)), ((5, 5), (5, 0))):
                    ways = [(word, *first), (word, *second)]
                    self.refused(ways, here, there)
                    self.refused(ways[::-1], here, there)
                    self.refused([ways[0], ("over" if word == "back" else "back", 4, 5), ways[1]], here, there)
                # The number alone is nothing: these begin where they don't end.
                bridge_of([(word, 0, 1), (word, 1, 0)], here, there)
                bridge_of([(word, 0, 1), (word, 1, 2)], here, there)

    def test_all_pairs_of_ways(self):
        """Refused just for what the document says, whichever worlds they are."""
        ways = [(word, start, goal) for word in ("over", "back") for start in range(2) for goal in range(2)]
        for here, there in PAIRS:
            for one, other in itertools.product(ways, repeat=2):
                if one[0] == other[0]:
                    wrong = one[1] == other[1] or one[2] == other[2]
                else:
                    over, back = (one, other) if one[0] == "over" else (other, one)
                    wrong = here[0] == "boxes" and over[1] == back[2] or there[0] == "boxes" and back[1] == over[2]
                with self.subTest(here=here, there=there, ways=[one, other]):
                    if wrong:
                        self.refused([one, other], here, there)
                        self.refused([("over", 4, 4), one, ("back", 5, 5), other], here, there)
                    else:
                        bridge_of([one, other], here, there)

    def test_worlds_of_one_name(self):
        for here, there in PAIRS:
            one, other = lines(here, there, (4, 4))
            with self.assertRaises(BadWays):
                Bridge(one, other, Book(), [("over", 0, 0)])

    def test_making_one_makes_no_call_and_puts_nothing(self):
        for here, there in PAIRS:
            one, other = lines(here, there)
            book = Book()
            one.arm(["fall"])
            other.arm(["fall"])
            book.arm(0)
            for time in range(3):
                Bridge(one, other, book, [("over", 0, 0), ("back", 1, 1)])
            self.assertEqual((one.calls(), other.calls()), (0, 0))
            with self.assertRaises(Fallen):
                book.put(0, 0)

    def test_a_copy_of_the_ways_is_kept(self):
        here, there = lines()
        ways = [("over", 0, 0)]
        bridge = Bridge(here, there, Book(), ways)
        ways[0] = ("back", 0, 0)
        ways.append(("over", 1, 1))
        here.write(0, A, 1)
        self.assertIs(bridge.step(0), True)
        self.assertEqual(there.read(0, 0, 20), [(A, 1)])
        with self.assertRaises(BadWays):
            bridge.step(1)
        self.assertEqual(ways, [("back", 0, 0), ("over", 1, 1)])

    def test_methods_stand_in_the_class_itself(self):
        for method in ("step", "doubtful"):
            self.assertIn(method, vars(Bridge))


class Numbers(unittest.TestCase):
    def test_ways_that_there_are_not(self):
        for many in (1, 2, 6):
            here, there = lines(("boxes", True), ("boxes", False))
            book = Book()
            book.arm(0)
            bridge = Bridge(here, there, book, [("over", row, row) for row in range(many)])
            here.world.put(0, A, 0)
            for number in [many, many + 1, -1, -many, 10 ** 9, 10 ** 5000] + NO_NUMBERS:
                with self.assertRaises(BadWays):
                    bridge.step(number)
                with self.assertRaises(BadWays):
                    bridge.doubtful(number)
            self.assertEqual((here.calls(), there.calls()), (0, 0))
            self.assertEqual([bridge.doubtful(number) for number in range(many)], [[]] * many)

    def test_each_number_is_its_own_way(self):
        here, there = lines()
        bridge = Bridge(here, there, Book(), [("over", 0, 1), ("back", 2, 3), ("over", 4, 5)])
        here.world.write(0, A, 1)
        there.world.write(2, C, 2)
        here.world.write(4, B, 3)
        self.assertIs(bridge.step(2), True)
        self.assertEqual(([there.world.long(row) for row in range(6)], here.world.long(3)), ([0, 0, 1, 0, 0, 1], 0))
        self.assertIs(bridge.step(1), True)
        self.assertEqual((there.world.long(1), here.world.read(3, 0, 20)), (0, [(C, 2)]))
        self.assertIs(bridge.step(0), True)
        self.assertEqual(there.world.read(1, 0, 20), [(A, 1)])
        self.assertEqual([bridge.step(number) for number in range(3)], [False] * 3)


class Stepped(unittest.TestCase):
    def test_one_letter_at_the_most(self):
        for kinds in PAIRS:
            here, there = lines(*kinds)
            bridge = Bridge(here, there, Book(), [("over", 0, 0)])
            for number in range(3):
                add(here.world, 0, (1, 0, number), number)
            for many in (1, 2, 3):
                self.assertIs(bridge.step(0), True)
                self.assertEqual(letters_in(there.world, 0), [((1, 0, number), number) for number in range(many)])
            self.assertEqual([bridge.step(0), bridge.step(0)], [False, False])
            self.assertEqual(len(letters_in(there.world, 0)), 3)

    def test_a_letter_of_the_targets_world_stays(self):
        for kinds in PAIRS:
            here, there = lines(*kinds)
            bridge = Bridge(here, there, Book(), [("over", 0, 0)])
            add(here.world, 0, (2, 0, 0), 5)
            self.assertIs(bridge.step(0), False)
            self.assertEqual(letters_in(there.world, 0), [])
            self.assertEqual(letters_in(here.world, 0), [] if kinds[0][0] == "boxes" else [((2, 0, 0), 5)])
            if kinds[0][0] == "boxes":
                here.world.turn()
                self.assertIsNone(here.world.take(0), "it is gone for good")
            add(here.world, 0, (2, 0, 1), 6)
            add(here.world, 0, A, 7)
            told = [bridge.step(0) for time in range(3)]
            self.assertEqual((sum(told), letters_in(there.world, 0)), (1, [(A, 7)]))

    def test_letters_of_the_source_and_of_others_are_brought(self):
        for kinds in PAIRS:
            here, there = lines(*kinds)
            bridge = Bridge(here, there, Book(), [("over", 0, 0)])
            wanted = [((world, 0, 0), world) for world in (1, 0, 9, 3)]
            for key, body in wanted:
                add(here.world, 0, key, body)
            self.assertEqual([bridge.step(0) for time in range(5)], [True] * 4 + [False])
            self.assertEqual(letters_in(there.world, 0), wanted)

    def test_a_row_still_has_what_is_brought_and_a_box_has_not(self):
        for kinds in PAIRS:
            here, there = lines(*kinds)
            add(here.world, 0, A, 1)
            Bridge(here, there, Book(), [("over", 0, 0)]).step(0)
            self.assertEqual(letters_in(here.world, 0), [] if kinds[0][0] == "boxes" else [(A, 1)])

    def test_a_name_that_is_in_the_target_already(self):
        for source in KINDS:
            for target in KINDS[:3]:
                here, there = lines(source, target)
                for world, body in ((here.world, 1), (there.world, 2)):
                    add(world, 0, A, body)
                if target[0] == "boxes":
                    there.world.done(there.world.take(0)[0])
                before = letters_in(there.world, 0)
                bridge = Bridge(here, there, Book(), [("over", 0, 0)])
                bridge.step(0)
                self.assertIs(bridge.step(0), False)
                self.assertEqual(letters_in(there.world, 0), before)

    def test_a_name_that_is_twice_in_the_source_comes_once(self):
        for kinds in PAIRS:
            if kinds[0][1]:
                continue
            here, there = lines(*kinds)
            for key, body in ((A, 1), (B, 2), (A, 3), (C, 4)):
                add(here.world, 0, key, body)
            bridge = Bridge(here, there, Book(), [("over", 0, 0)])
            told = [bridge.step(0) for time in range(5)]
            self.assertEqual((sum(told), letters_in(there.world, 0)), (3, [(A, 1), (B, 2), (C, 4)]))
            self.assertEqual(bridge.doubtful(0), [])

    def test_false_if_a_call_was_cut(self):
        """At each call of a step in turn; then True or False by whether more is to be known."""
        for kinds in PAIRS:
            for side in (0, 1):
                for word in ("lost", "deaf"):
                    for good in range(3):
                        both = lines(*kinds)
                        here, there = both
                        add(here.world, 0, A, 1)
                        bridge = Bridge(here, there, Book(), [("over", 0, 0)])
                        both[side].arm(["good"] * good + [word])
                        told = bridge.step(0)
                        self.assertIs(told, both[side].calls() <= good)

    def test_an_answer_that_was_lost_is_known_later(self):
        for source in KINDS:
            for target in KINDS:
                here, there = lines(source, target)
                add(here.world, 0, A, 1)
                bridge = Bridge(here, there, Book(), [("over", 0, 0)])
                # The write, or put, is the last call to the target.
                there.arm(["good", "deaf"] if target == ("rows", False) else ["deaf"])
                self.assertIs(bridge.step(0), False)
                self.assertEqual(letters_in(there.world, 0), [(A, 1)])
                if source[0] == "boxes":
                    here.world.turn()
                self.assertIs(bridge.step(0), True)
                self.assertIs(bridge.step(0), False)
                self.assertEqual(len(letters_in(there.world, 0)), 2 if target == ("boxes", False) else 1)

    def test_what_is_known_to_be_over_is_not_told_again(self):
        """done is cut: the letter comes out of its box again, but not over again."""
        for target in KINDS:
            here, there = lines(("boxes", False), target)
            here.world.put(0, A, 1)
            bridge = Bridge(here, there, Book(), [("over", 0, 0)])
            here.arm(["good", "lost"])
            self.assertEqual((bridge.step(0), letters_in(there.world, 0)), (False, [(A, 1)]))
            here.world.turn()
            self.assertEqual((bridge.step(0), letters_in(there.world, 0)), (False, [(A, 1)]))
            self.assertEqual((here.world.left(0), bridge.doubtful(0)), ([], []))


class Fell(unittest.TestCase):
    def test_fallen_goes_through_and_the_bridge_is_at_its_end(self):
        for word in ("fall", "end"):
            here, there = lines()
            here.world.write(0, A, 1)
            book = Book()
            bridge = Bridge(here, there, book, [("over", 0, 0)])
            here.arm([word])
            with self.assertRaises(Fallen):
                bridge.step(0)
            calls = here.calls(), there.calls()
            with self.assertRaises(Fallen):
                bridge.step(0)
            with self.assertRaises(BadWays):
                bridge.step(1)
            self.assertEqual((here.calls(), there.calls()), calls)
            self.assertEqual(bridge.doubtful(0), [])
            self.assertIs(Bridge(here, there, book, [("over", 0, 0)]).step(0), True)
            self.assertEqual(there.world.read(0, 0, 20), [(A, 1)])

    def test_at_a_put_of_the_book(self):
        for kinds in PAIRS:
            here, there = lines(*kinds)
            add(here.world, 0, A, 1)
            book = Book()
            book.arm(0)
            with self.assertRaises(Fallen):
                Bridge(here, there, book, [("over", 0, 0)]).step(0)
            if kinds[0][0] == "boxes":
                here.world.turn()
            self.assertIs(Bridge(here, there, book, [("over", 0, 0)]).step(0), True)
            self.assertEqual(letters_in(there.world, 0), [(A, 1)])

    def test_one_way_falls_and_the_others_go_on_with_a_new_one(self):
        here, there = lines()
        here.world.write(0, A, 1)
        here.world.write(1, B, 2)
        book, ways = Book(), [("over", 0, 0), ("over", 1, 1)]
        bridge = Bridge(here, there, book, ways)
        self.assertIs(bridge.step(1), True)
        there.arm(["good", "end"])
        with self.assertRaises(Fallen):
            bridge.step(0)
        bridge = Bridge(here, there, book, ways)
        self.assertEqual([bridge.step(1), bridge.step(0), bridge.step(0)], [False, True, False])
        self.assertEqual([there.world.read(row, 0, 20) for row in (0, 1)], [[(A, 1)], [(B, 2)]])


class Doubtful(unittest.TestCase):
    def setUp(self):
        self.here, self.there = lines(("rows", True), ("boxes", False))
        self.book = Book()
        self.bridge = self.anew()

    def anew(self):
        return Bridge(self.here, self.there, self.book, [("over", 0, 0), ("over", 1, 1)])

    def told(self):
        self.assertEqual(self.anew().doubtful(0), self.bridge.doubtful(0))
        return self.bridge.doubtful(0)

    def test_only_what_was_put_twice(self):
        for key in (A, B, C):
            self.here.world.write(0, key, 0)
        self.there.arm(["deaf"])
        self.assertEqual((self.bridge.step(0), self.told()), (False, []))
        self.assertEqual((self.bridge.step(0), self.told()), (True, [A]))
        self.assertEqual((self.bridge.step(0), self.told()), (True, [A]))
        self.there.arm(["lost"])
        self.assertEqual((self.bridge.step(0), self.told()), (False, [A]))
        self.assertEqual((self.bridge.step(0), self.told()), (True, [A, C]))
        self.assertEqual([key for key, body in self.there.world.left(0)], [A, A, B, C])
        self.assertEqual(self.bridge.doubtful(1), [])

    def test_rising(self):
        for key in ((3, 0, 10), (1, 5, 9), (3, 0, 9), (1, 0, 999)):
            self.here.world.write(0, key, 0)
            self.there.arm(["lost"])
            self.bridge.step(0)
            self.bridge.step(0)
        self.assertEqual(self.told(), [(1, 0, 999), (1, 5, 9), (3, 0, 9), (3, 0, 10)])

    def test_behind_a_fall(self):
        for word in ("fall", "end"):
            self.setUp()
            self.here.world.write(0, A, 0)
            self.there.arm([word])
            with self.assertRaises(Fallen):
                self.bridge.step(0)
            self.bridge = self.anew()
            self.assertEqual(self.told(), [])
            self.assertEqual((self.bridge.step(0), self.told()), (True, [A]))

    def test_a_put_that_was_never_tried_is_no_doubt(self):
        self.here.world.write(0, A, 0)
        self.book.arm(0)
        with self.assertRaises(Fallen):
            self.bridge.step(0)
        self.bridge = self.anew()
        self.assertEqual((self.bridge.step(0), self.told()), (True, []))
        self.assertEqual(self.there.world.left(0), [(A, 0)])

    def test_none_where_nothing_comes_twice(self):
        for source in KINDS:
            for target in KINDS[:3]:
                here, there = lines(source, target)
                add(here.world, 0, A, 1)
                bridge = Bridge(here, there, Book(), [("over", 0, 0)])
                for time in range(4):
                    there.arm(["good", "deaf"] if target == ("rows", False) else ["deaf"])
                    bridge.step(0)
                    if source[0] == "boxes":
                        here.world.turn()
                self.assertEqual(bridge.doubtful(0), [])

    def test_told_lists_may_be_spoilt(self):
        self.here.world.write(0, A, 0)
        self.there.arm(["lost"])
        self.bridge.step(0)
        self.bridge.step(0)
        self.bridge.doubtful(0).clear()
        self.assertEqual(self.told(), [A])


if __name__ == "__main__":
    unittest.main()
