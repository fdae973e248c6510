import itertools
import unittest

from values import A, B, C, D, beside, right_keys, wrong_keys
from worldbridge.errors import BadLetter, BadWorld, BridgeError
from worldbridge.worlds import Boxes


def told(world):
    """All that a world of boxes tells of itself without a change."""
    return (world.name(), world.kind(), [world.left(box) for box in range(6)])


def filled(knows=False, lease=2):
    """Box 0 has A, B, C waiting; box 5 has D; nothing is taken yet."""
    world = Boxes(4, knows, lease)
    for box, key, body in ((0, A, 10), (0, B, 11), (5, D, 12), (0, C, 13)):
        world.put(box, key, body)
    return world


def turns(world, many):
    for turn in range(many):
        world.turn()


class Made(unittest.TestCase):
    def test_kind_and_name(self):
        for name in range(10):
            for knows in (True, False):
                world = Boxes(name, knows, 1)
                self.assertEqual((world.name(), world.kind()), (name, ("boxes", knows)))
                self.assertIs(world.kind()[1], knows)

    def test_wrong_names(self):
        for name in beside(0, 9):
            with self.assertRaises(BadWorld):
                Boxes(name, True, 1)

    def test_wrong_truths(self):
        for knows in (0, 1, None, "", "True", ()):
            with self.subTest(knows), self.assertRaises(BadWorld):
                Boxes(0, knows, 1)

    def test_wrong_leases(self):
        for lease in beside(1, 5):
            with self.assertRaises(BadWorld):
                Boxes(0, True, lease)

    def test_what_is_handed_in_first_is_refused_first(self):
        for name, knows, lease, words in ((10, 0, 0, "name"), (0, 0, 0, "truth"), (0, True, 0, "lease")):
            with self.assertRaisesRegex(BadWorld, words):
                Boxes(name, knows, lease)

    def test_methods_stand_in_the_class_itself(self):
        for method in ("put", "turn", "take", "done", "left", "kind", "name"):
            self.assertIn(method, vars(Boxes))

    def test_worlds_share_nothing(self):
        one, other = Boxes(1, True, 1), Boxes(1, True, 1)
        one.put(0, A, 1)
        self.assertEqual((len(one.left(0)), other.left(0), other.take(0)), (1, [], None))


class PutAndTake(unittest.TestCase):
    def test_the_first_one_that_waits_is_taken(self):
        world = filled()
        self.assertEqual([world.take(0) for time in range(4)], [(0, A, 10), (1, B, 11), (2, C, 13), None])

    def test_tickets_count_from_0_for_all_boxes_of_a_world(self):
        world = filled()
        self.assertEqual([world.take(box) for box in (5, 0, 5, 0)], [(0, D, 12), (1, A, 10), None, (2, B, 11)])

    def test_none_waits(self):
        world = Boxes(0, True, 1)
        self.assertEqual([world.take(box) for box in range(6)], [None] * 6)

    def test_put_and_turn_tell_none(self):
        for knows in (True, False):
            world = Boxes(0, knows, 1)
            self.assertEqual([world.put(0, A, 1), world.put(0, A, 1), world.turn()], [None] * 3)

    def test_all_limits_are_put(self):
        world = Boxes(9, False, 5)
        wanted = [(key, body) for key in right_keys() for body in (0, 999)]
        for box in (0, 5):
            for key, body in wanted:
                world.put(box, key, body)
            self.assertEqual(world.left(box), wanted)

    def test_a_name_is_known_for_ever(self):
        world = filled(knows=True)
        world.put(0, A, 99)
        self.assertEqual(world.left(0), [(A, 10), (B, 11), (C, 13)])
        world.take(0)
        world.put(0, A, 99)
        self.assertEqual(world.left(0), [(B, 11), (C, 13), (A, 10)])
        world.done(0)
        world.put(0, A, 99)
        turns(world, 5)
        world.put(0, A, 10)
        self.assertEqual(world.left(0), [(B, 11), (C, 13)])

    def test_a_name_is_known_in_its_box_only(self):
        world = filled(knows=True)
        world.put(1, A, 50)
        world.put(5, A, 51)
        self.assertEqual((world.left(1), world.left(5)), ([(A, 50)], [(D, 12), (A, 51)]))

    def test_names_that_are_not_known_come_again(self):
        world = filled()
        world.put(0, A, 10)
        world.take(0)
        world.put(0, A, 20)
        world.done(0)
        world.put(0, A, 30)
        self.assertEqual(world.left(0), [(B, 11), (C, 13), (A, 10), (A, 20), (A, 30)])


class Done(unittest.TestCase):
    def test_done_is_gone_for_good(self):
        world = filled()
        world.take(0)
        self.assertIs(world.done(0), True)
        self.assertEqual(world.left(0), [(B, 11), (C, 13)])
        turns(world, 6)
        self.assertEqual(world.left(0), [(B, 11), (C, 13)])

    def test_twice(self):
        world = filled()
        world.take(0)
        self.assertEqual([world.done(0), world.done(0)], [True, False])

    def test_in_another_order_than_taken(self):
        world = filled()
        for box in (0, 5, 0):
            world.take(box)
        self.assertEqual([world.done(ticket) for ticket in (2, 0, 1, 2)], [True, True, True, False])
        self.assertEqual((world.left(0), world.left(5)), ([(C, 13)], []))

    def test_tickets_that_never_were(self):
        world = filled()
        world.take(0)
        world.take(0)
        before = told(world)
        for ticket in [2, -1, -2, 10 ** 9, 10 ** 5000, "0", None, True, False, (), (0,), [0]]:
            self.assertIs(world.done(ticket), False)
            self.assertEqual(told(world), before)
        self.assertEqual([world.done(0), world.done(1)], [True, True])

    def test_a_ticket_whose_letter_waits_again(self):
        world = filled(lease=1)
        world.take(5)
        world.turn()
        self.assertIs(world.done(0), False)
        self.assertEqual(world.left(5), [(D, 12)])

    def test_an_old_ticket_of_a_letter_that_is_taken_anew(self):
        world = filled(lease=1)
        world.take(5)
        world.turn()
        self.assertEqual(world.take(5), (1, D, 12))
        self.assertIs(world.done(0), False)
        self.assertEqual(world.left(5), [(D, 12)])
        self.assertIs(world.done(1), True)
        self.assertEqual(world.left(5), [])


class Turn(unittest.TestCase):
    def test_letters_wait_again_after_each_lease_and_not_before(self):
        for lease in range(1, 6):
            for knows in (True, False):
                world = filled(knows, lease)
                turns(world, 3)
                world.take(5)
                for turn in range(lease - 1):
                    world.turn()
                    self.assertIsNone(world.take(5))
                world.turn()
                self.assertEqual(world.take(5), (1, D, 12))

    def test_just_ahead_of_its_last_turn_a_letter_is_done(self):
        for lease in range(1, 6):
            world = filled(lease=lease)
            world.take(5)
            turns(world, lease - 1)
            self.assertIs(world.done(0), True)
            turns(world, 6)
            self.assertEqual(world.left(5), [])

    def test_each_lease_begins_when_it_is_taken(self):
        world = filled(lease=2)
        world.take(0)
        world.turn()
        world.take(0)
        world.turn()
        self.assertEqual([world.done(0), world.done(1)], [False, True])
        self.assertEqual(world.left(0), [(C, 13), (A, 10)])

    def test_a_lease_begins_anew(self):
        world = filled(lease=2)
        world.take(5)
        turns(world, 2)
        world.take(5)
        world.turn()
        self.assertIsNone(world.take(5))
        world.turn()
        self.assertEqual(world.take(5), (2, D, 12))

    def test_several_wait_again_behind_the_others_by_their_tickets(self):
        world = filled(lease=1)
        world.take(0)
        world.take(0)
        world.put(0, D, 14)
        world.turn()
        self.assertEqual(world.left(0), [(C, 13), (D, 14), (A, 10), (B, 11)])
        self.assertEqual([world.take(0) for time in range(5)],
                         [(2, C, 13), (3, D, 14), (4, A, 10), (5, B, 11), None])

    def test_by_tickets_and_not_by_names_or_first_puts(self):
        world = filled(lease=1)
        world.take(0)
        world.turn()
        self.assertEqual([world.take(0)[1] for time in range(3)], [B, C, A])
        world.turn()
        self.assertEqual(world.left(0), [(B, 11), (C, 13), (A, 10)])

    def test_more_than_ten_by_their_tickets(self):
        world = Boxes(0, True, 3)
        letters = [((0, 0, 99 - number), number) for number in range(25)]
        for key, body in letters:
            world.put(3, key, body)
        for letter in letters:
            world.take(3)
        world.done(11)
        turns(world, 3)
        self.assertEqual(world.left(3), letters[:11] + letters[12:])

    def test_letters_wait_again_in_their_own_boxes(self):
        world = filled(lease=1)
        for box in (5, 0):
            world.take(box)
        world.turn()
        self.assertEqual((world.left(0), world.left(5)), ([(B, 11), (C, 13), (A, 10)], [(D, 12)]))


class Left(unittest.TestCase):
    def test_waiting_ones_first_then_taken_ones_by_tickets(self):
        world = filled(lease=5)
        world.take(0)
        world.take(0)
        self.assertEqual(world.left(0), [(C, 13), (A, 10), (B, 11)])
        world.put(0, D, 14)
        self.assertEqual(world.left(0), [(C, 13), (D, 14), (A, 10), (B, 11)])
        world.done(0)
        self.assertEqual(world.left(0), [(C, 13), (D, 14), (B, 11)])

    def test_taken_ones_of_its_own_box_only(self):
        world = filled()
        for box in (0, 5, 0):
            world.take(box)
        self.assertEqual([world.left(box) for box in (0, 1, 5)], [[(C, 13), (A, 10), (B, 11)], [], [(D, 12)]])

    def test_an_empty_box(self):
        self.assertEqual(Boxes(0, True, 1).left(5), [])

    def test_told_lists_may_be_spoilt(self):
        world = filled()
        world.take(0)
        before = told(world)
        for box in (0, 1, 5):
            answer = world.left(box)
            self.assertIsInstance(answer, list)
            self.assertTrue(all(isinstance(letter, tuple) for letter in answer))
            answer.reverse()
            answer.append("spoilt")
            del answer[0]
        self.assertEqual(told(world), before)
        self.assertEqual(told(world), before)
        self.assertEqual([world.take(box) for box in (0, 1, 5)], [(1, B, 11), None, (2, D, 12)])

    def test_spoilt_with_nothing_taken_or_nothing_waiting(self):
        world = filled()
        world.left(0).clear()
        self.assertEqual(world.left(0), [(A, 10), (B, 11), (C, 13)])
        world.take(5)
        world.left(5).clear()
        self.assertEqual(world.left(5), [(D, 12)])

    def test_what_was_told_stays_when_something_is_done(self):
        world = filled()
        answer = world.left(0)
        world.take(0)
        world.put(0, D, 1)
        self.assertEqual(answer, [(A, 10), (B, 11), (C, 13)])


class Refused(unittest.TestCase):
    def refused(self, call):
        """Whether names are known or not call is refused, and nothing changes."""
        for knows in (True, False):
            world = filled(knows)
            world.take(0)
            before = told(world)
            with self.assertRaises(BridgeError) as caught:
                call(world)
            self.assertIs(caught.exception.__class__, BadLetter)
            self.assertEqual(told(world), before)
            # Neither a ticket nor a turn was used up.
            world.turn()
            self.assertEqual(world.take(0), (1, B, 11))
            self.assertIs(world.done(0), True)

    def test_boxes_that_there_are_not(self):
        for box in beside(0, 5):
            self.refused(lambda world: world.put(box, D, 0))
            self.refused(lambda world: world.take(box))
            self.refused(lambda world: world.left(box))

    def test_wrong_letters(self):
        for key in wrong_keys():
            self.refused(lambda world: world.put(0, key, 0))
        for body in beside(0, 999):
            self.refused(lambda world: world.put(0, D, body))

    def test_a_wrong_body_of_a_known_name(self):
        self.refused(lambda world: world.put(0, A, 1000))

    def test_two_at_once(self):
        self.refused(lambda world: world.put(6, None, 1000))
        self.refused(lambda world: world.put(0, None, 1000))

    def test_a_refused_name_is_not_known(self):
        world = filled(knows=True)
        for box, body in ((0, 1000), (6, 0)):
            with self.assertRaises(BadLetter):
                world.put(box, D, body)
        world.put(0, D, 1)
        self.assertEqual(world.left(0)[-1], (D, 1))


class AllShortStories(unittest.TestCase):
    """Whatever is done, each letter waits, is taken or is gone, and never two of these."""

    def story(self, lease, events):
        world = Boxes(0, True, lease)
        put, gone, tickets = [], [], {}
        for number, event in enumerate(events):
            if event == "put":
                put.append(((0, 0, number), number))
                world.put(0, *put[-1])
            elif event == "take":
                answer = world.take(0)
                if answer is not None:
                    self.assertEqual(answer[0], len(tickets))
                    tickets[answer[0]] = answer[1:]
            elif event == "turn":
                world.turn()
            else:
                gone += [tickets[ticket] for ticket in sorted(tickets)[-1:] if world.done(ticket)]
            self.assertEqual(sorted(world.left(0) + gone), sorted(put))
        turns(world, lease)
        waiting = world.left(0)
        self.assertEqual([world.take(0)[1:] for letter in waiting], waiting)
        self.assertIsNone(world.take(0))

    def test_none_is_lost_and_none_comes_twice(self):
        for lease in (1, 2):
            for events in itertools.product(("put", "take", "turn", "done"), repeat=6):
                self.story(lease, ("put",) + events)


if __name__ == "__main__":
    unittest.main()
