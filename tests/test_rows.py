import unittest

from values import A, B, C, D, beside, right_keys, wrong_keys
from worldbridge.errors import BadLetter, BadPlace, BadWorld, BridgeError
from worldbridge.worlds import Rows


def told(world):
    """All that a world of rows tells of itself."""
    rows = [(world.long(row), [world.read(row, place, 20) for place in (0, 20, 40)]) for row in range(6)]
    return (world.name(), world.kind(), rows)


def filled(knows):
    world = Rows(3, knows)
    for row, key, body in ((0, A, 10), (0, B, 11), (5, C, 12), (0, C, 13)):
        world.write(row, key, body)
    return world


class Made(unittest.TestCase):
    def test_kind_and_name(self):
        for name in range(10):
            for knows in (True, False):
                world = Rows(name, knows)
                self.assertEqual((world.name(), world.kind()), (name, ("rows", knows)))
                self.assertIs(world.kind()[1], knows)

    def test_wrong_names(self):
        for name in beside(0, 9):
            with self.assertRaises(BadWorld):
                Rows(name, True)

    def test_wrong_truths(self):
        for knows in (0, 1, None, "", "True", ()):
            with self.subTest(knows), self.assertRaises(BadWorld):
                Rows(0, knows)

    def test_methods_stand_in_the_class_itself(self):
        for method in ("write", "long", "name", "read", "kind"):
            self.assertIn(method, vars(Rows))

    def test_worlds_share_nothing(self):
        one, other = Rows(1, True), Rows(1, True)
        one.write(0, A, 1)
        self.assertEqual((one.long(0), other.long(0)), (1, 0))


class Written(unittest.TestCase):
    def test_places_count_from_0_in_each_row(self):
        world = Rows(0, True)
        self.assertEqual([world.write(0, key, 1) for key in (A, B, C)], [0, 1, 2])
        self.assertEqual([world.write(5, key, 1) for key in (C, A)], [0, 1])
        self.assertEqual([world.long(row) for row in range(6)], [3, 0, 0, 0, 0, 2])

    def test_all_limits_are_written(self):
        world = Rows(9, False)
        wanted = [(key, body) for key in right_keys() for body in (0, 999)]
        for row in (0, 5):
            for key, body in wanted:
                world.write(row, key, body)
        self.assertEqual((world.read(0, 0, 20), world.read(5, 0, 20)), (wanted, wanted))

    def test_a_known_name_is_not_put_again(self):
        world = filled(True)
        before = told(world)
        self.assertEqual([world.write(0, key, 99) for key in (A, B, C)], [0, 1, 2])
        self.assertEqual(world.write(5, C, 12), 0)
        self.assertEqual(told(world), before)
        self.assertEqual(world.write(0, D, 14), 3)

    def test_a_name_is_known_in_its_row_only(self):
        world = filled(True)
        self.assertEqual(world.write(1, A, 77), 0)
        self.assertEqual(world.read(1, 0, 1), [(A, 77)])
        self.assertEqual(world.write(5, A, 78), 1)

    def test_names_that_are_not_known_come_again(self):
        world = filled(False)
        self.assertEqual([world.write(0, A, body) for body in (20, 21)], [3, 4])
        self.assertEqual(world.read(0, 0, 20), [(A, 10), (B, 11), (C, 13), (A, 20), (A, 21)])

    def test_a_hundred_letters(self):
        for knows in (True, False):
            world = Rows(2, knows)
            places = [world.write(4, (2, 1, number), 999 - number) for number in range(100)]
            self.assertEqual((places, world.long(4)), (list(range(100)), 100))
            self.assertEqual(world.read(4, 90, 20), [((2, 1, number), 999 - number) for number in range(90, 100)])


class Read(unittest.TestCase):
    def setUp(self):
        self.world = Rows(1, False)
        self.letters = [((1, 2, number), number + 5) for number in range(30)]
        for key, body in self.letters:
            self.world.write(2, key, body)

    def test_from_each_place_so_many_at_the_most(self):
        for place in range(35):
            for many in (1, 2, 19, 20):
                self.assertEqual(self.world.read(2, place, many), self.letters[place:place + many])

    def test_behind_the_end_there_are_none(self):
        for place in (30, 31, 10 ** 6 - 1, 10 ** 6):
            self.assertEqual(self.world.read(2, place, 20), [])
        self.assertEqual(self.world.read(0, 0, 1), [])

    def test_told_lists_may_be_spoilt(self):
        before = told(self.world)
        for answer in (self.world.read(2, 0, 20), self.world.read(2, 29, 1)):
            self.assertIsInstance(answer, list)
            self.assertTrue(all(isinstance(letter, tuple) for letter in answer))
            answer.reverse()
            answer.append("spoilt")
            del answer[0]
        self.assertEqual(told(self.world), before)
        self.assertEqual(told(self.world), before)

    def test_what_was_told_stays_when_more_is_written(self):
        answer = self.world.read(2, 25, 20)
        self.world.write(2, A, 1)
        self.assertEqual(answer, self.letters[25:])


class Refused(unittest.TestCase):
    def refused(self, error, call):
        """In both sorts of world call is refused, and nothing changes."""
        for knows in (True, False):
            world = filled(knows)
            before = told(world)
            with self.assertRaises(BridgeError) as caught:
                call(world)
            self.assertIs(caught.exception.__class__, error)
            self.assertEqual(told(world), before)
            self.assertEqual(world.write(0, D, 14), 3)

    def test_rows_that_there_are_not(self):
        for row in beside(0, 5):
            self.refused(BadLetter, lambda world: world.write(row, D, 0))
            self.refused(BadLetter, lambda world: world.read(row, 0, 1))
            self.refused(BadLetter, lambda world: world.long(row))

    def test_wrong_letters(self):
        for key in wrong_keys():
            self.refused(BadLetter, lambda world: world.write(0, key, 0))
        for body in beside(0, 999):
            self.refused(BadLetter, lambda world: world.write(0, D, body))

    def test_a_wrong_body_of_a_known_name(self):
        self.refused(BadLetter, lambda world: world.write(0, A, 1000))

    def test_wrong_places(self):
        for place in beside(0, 10 ** 6):
            self.refused(BadPlace, lambda world: world.read(0, place, 1))
        for many in beside(1, 20):
            self.refused(BadPlace, lambda world: world.read(0, 0, many))

    def test_what_is_handed_in_first_is_refused_first(self):
        self.refused(BadLetter, lambda world: world.read(6, -1, 1))
        self.refused(BadLetter, lambda world: world.read(-1, 0, 0))
        self.refused(BadLetter, lambda world: world.read(None, None, None))
        self.refused(BadPlace, lambda world: world.read(0, 10 ** 6 + 1, 21))
        self.refused(BadLetter, lambda world: world.write(6, None, 1000))


if __name__ == "__main__":
    unittest.main()
