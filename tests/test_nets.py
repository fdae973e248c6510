"""[14] and [15]: where letters come by many bridges."""

import itertools
import random
import unittest

from journeys import Journey
from values import beside
from worldbridge.errors import BadWays
from worldbridge.promises import reaches, shortest

LINE = [(0, 0, 1, 0), (1, 0, 2, 5), (2, 5, 3, 1)]
RING = [(0, 0, 1, 0), (1, 0, 2, 0), (2, 0, 0, 0)]
WRONG_PLACES = (["", "00", "abc", 0, 7, True, None, (), (0,), (0, 0, 0), ((0, 0),), (0, (0,))]
                + [(world, 0) for world in beside(0, 9)] + [(0, row) for row in beside(0, 5)])
WRONG_WAYS = (["", "0 0 1 0", "abcd", 0, 7, True, None, (), (0,), (0, 0), (0, 0, 1), (0, 0, 1, 0, 0), (0, 0, 0, 0),
               (3, 1, 3, 2), ((0, 0), (1, 0)), ((0, 0, 1, 0),), ("over", 0, 0)]
              + [(world, 0, 1, 0) for world in beside(0, 9)] + [(0, row, 1, 0) for row in beside(0, 5)]
              + [(1, 0, world, 0) for world in beside(0, 9)] + [(0, 0, 1, row) for row in beside(0, 5)])


def all_lists(ways, start):
    """By (world, row): all lists of ways that a letter can go, each row once at the most."""
    found = {start: [[]]}

    def go(at, passed, numbers):
        for number, way in enumerate(ways):
            there = way[2:]
            if way[:2] == at and there[0] != start[0] and there not in passed:
                found.setdefault(there, []).append(numbers + [number])
                go(there, passed + [there], numbers + [number])
    go(start, [start], [])
    return found


def some_net(dice, many, worlds=4, rows=2):
    ways = []
    while len(ways) < many:
        way = (dice.randrange(worlds), dice.randrange(rows), dice.randrange(worlds), dice.randrange(rows))
        if way[0] != way[2]:
            ways.append(way)
    return ways


class Reaches(unittest.TestCase):
    def test_no_way(self):
        self.assertEqual(reaches([], (0, 0)), [])

    def test_a_line_from_each_row(self):
        self.assertEqual(reaches(LINE, (0, 0)), [(1, 0), (2, 5), (3, 1)])
        self.assertEqual(reaches(LINE, (1, 0)), [(2, 5), (3, 1)])
        self.assertEqual(reaches(LINE, (3, 1)), [])
        self.assertEqual(reaches(LINE[::-1], (0, 0)), [(1, 0), (2, 5), (3, 1)])

    def test_a_ring_leaves_out_the_start(self):
        self.assertEqual(reaches(RING, (0, 0)), [(1, 0), (2, 0)])
        self.assertEqual(reaches(RING, (1, 0)), [(0, 0), (2, 0)])

    def test_never_into_its_own_world(self):
        ways = [(0, 0, 1, 0), (1, 0, 0, 1), (0, 1, 2, 0), (1, 0, 3, 0)]
        self.assertEqual(reaches(ways, (0, 0)), [(1, 0), (3, 0)])
        self.assertEqual(reaches(ways, (0, 1)), [(2, 0)])
        self.assertEqual(reaches(ways, (1, 0)), [(0, 1), (2, 0), (3, 0)])

    def test_rising(self):
        ways = [(5, 0, 9, 5), (5, 0, 0, 3), (5, 0, 9, 0), (5, 0, 0, 2)]
        self.assertEqual(reaches(ways, (5, 0)), [(0, 2), (0, 3), (9, 0), (9, 5)])

    def test_starts_that_no_way_has(self):
        for start in ((9, 5), (0, 1), (4, 0)):
            self.assertEqual(reaches(LINE, start), [])


class Shortest(unittest.TestCase):
    def test_the_start(self):
        for ways in ([], LINE, RING):
            for start in ((0, 0), (9, 5)):
                self.assertEqual(shortest(ways, start, start), [])

    def test_a_line(self):
        self.assertEqual([shortest(LINE, (0, 0), goal) for goal in ((1, 0), (2, 5), (3, 1))], [[0], [0, 1], [0, 1, 2]])
        self.assertEqual([shortest(LINE[::-1], (0, 0), goal) for goal in ((1, 0), (2, 5))], [[2], [2, 1]])

    def test_not_reached(self):
        for goal in ((0, 0), (0, 1), (9, 5), (2, 0)):
            self.assertIsNone(shortest(LINE, (1, 0), goal))
        self.assertIsNone(shortest([], (0, 0), (0, 1)))
        # Another row of its own world is never reached.
        self.assertIsNone(shortest([(0, 0, 1, 0), (1, 0, 0, 1)], (0, 0), (0, 1)))

    def test_the_fewest(self):
        ways = [(0, 0, 1, 0), (1, 0, 2, 0), (2, 0, 3, 0), (0, 0, 3, 0)]
        self.assertEqual(shortest(ways, (0, 0), (3, 0)), [3])

    def test_the_first_of_several(self):
        ways = [(2, 0, 3, 0), (1, 0, 3, 0), (0, 0, 2, 0), (0, 0, 1, 0), (0, 0, 1, 0), (1, 0, 3, 0)]
        self.assertEqual(shortest(ways, (0, 0), (3, 0)), [2, 0])
        self.assertEqual(shortest(ways, (0, 0), (1, 0)), [3])
        # The first way of the first list decides, not the last one.
        ways = [(0, 0, 1, 0), (0, 0, 2, 0), (2, 0, 3, 0), (1, 0, 3, 0)]
        self.assertEqual(shortest(ways, (0, 0), (3, 0)), [0, 3])

    def test_all_lists_of_many_nets(self):
        dice = random.Random(7)
        for time in range(300):
            ways = some_net(dice, dice.randrange(12))
            for start in itertools.product(range(4), range(2)):
                found = all_lists(ways, start)
                self.assertEqual(reaches(ways, start), sorted(at for at in found if at != start))
                for goal in itertools.product(range(4), range(2)):
                    wanted = min(found[goal], key=lambda numbers: (len(numbers), numbers)) if goal in found else None
                    self.assertEqual(shortest(ways, start, goal), wanted, (ways, start, goal))

    def test_fifteen_ways(self):
        ways = [(number, 0, number + 1, 0) for number in range(9)]
        ways += [(9, 0, 1, row) for row in range(6)]
        self.assertEqual(len(ways), 15)
        self.assertEqual(reaches(ways, (0, 0))[-1], (9, 0))
        self.assertEqual(shortest(ways, (0, 0), (1, 5)), list(range(9)) + [14])


class Refused(unittest.TestCase):
    def refused(self, ways, start):
        with self.assertRaises(BadWays):
            reaches(ways, start)
        with self.assertRaises(BadWays):
            shortest(ways, start, (1, 0))

    def test_nets(self):
        for way in WRONG_WAYS:
            for ways in ([way], LINE + [way], [way] + LINE, LINE[:1] + [way] + LINE[1:]):
                self.refused(ways, (0, 0))
        for ways in ("", "abc", 0, True, None, (), ((0, 0, 1, 0),), (0, 0, 1, 0)):
            self.refused(ways, (0, 0))

    def test_more_than_fifteen(self):
        fifteen = [LINE[0]] * 15
        self.assertEqual((reaches(fifteen, (0, 0)), shortest(fifteen, (0, 0), (1, 0))), ([(1, 0)], [0]))
        self.refused(fifteen + [LINE[1]], (0, 0))
        self.refused(fifteen * 2, (0, 0))

    def test_starts_and_goals(self):
        for place in WRONG_PLACES:
            for ways in ([], LINE):
                self.refused(ways, place)
                for start in ((0, 0), place):
                    with self.assertRaises(BadWays):
                        shortest(ways, start, place)

    def test_nothing_that_is_handed_in_is_changed(self):
        ways = list(RING)
        reaches(ways, (0, 0)).append("spoilt")
        shortest(ways, (0, 0), (2, 0)).append("spoilt")
        shortest(ways, (0, 0), (0, 0)).append("spoilt")
        self.assertEqual(ways, RING)
        self.assertEqual(reaches(ways, (0, 0)), [(1, 0), (2, 0)])
        self.assertEqual((shortest(ways, (0, 0), (2, 0)), shortest(ways, (0, 0), (0, 0))), ([0, 1], []))


class WithBridges(unittest.TestCase):
    """Each way is a bridge's, and all go on: each letter is where its net says, once."""

    def net(self, ways, knows, dice=None):
        failing = [[dice.choice(("lost", "deaf", "fall", "end", "good", "good")) for call in range(20)]
                   for side in range(2)] if dice else [[], []]
        worlds = sorted({way[0] for way in ways} | {way[2] for way in ways})
        journey = Journey(self, {world: ("rows", knows(world)) for world in worlds})
        for number, (world, row, other, goal) in enumerate(ways):
            # By turns from the one side and from the other.
            if number % 2:
                journey.crossing(other, world, [("back", row, goal)], (*failing, []))
            else:
                journey.crossing(world, other, [("over", row, goal)], (*failing, []))
        starts = sorted({way[:2] for way in ways})
        wanted = {(world, row): [] for world in worlds for row in range(6)}
        for number, start in enumerate(starts):
            key = (start[0], 0, number)
            journey.letter(*start, key)
            for at in [start] + reaches(ways, start):
                wanted[at].append(key)
        for time in range(len(ways) * len(starts) + 20):
            for crossing in journey.crossings:
                journey.step(crossing, 0)
        journey.settle_all()
        found = {at: sorted(key for key, body in letters) for at, letters in journey.everything().items()}
        self.assertEqual(found, {at: sorted(names) for at, names in wanted.items()})

    def test_lines_rings_and_meeting_ways(self):
        for ways in (LINE, RING, [(0, 0, 1, 0), (1, 0, 0, 0)], [(0, 0, 1, 0), (0, 0, 2, 0), (1, 0, 3, 0), (2, 0, 3, 0)],
                     RING + [(2, 0, 1, 0), (1, 0, 0, 0), (0, 0, 2, 0)]):
            for knows in (lambda world: True, lambda world: False, lambda world: world % 2 == 0):
                self.net(ways, knows)

    def test_some_nets(self):
        dice = random.Random(3)
        for time in range(12):
            ways = some_net(dice, dice.randrange(1, 16))
            self.net(ways, lambda world: (world + time) % 3 == 0)

    def test_some_nets_with_failures(self):
        dice = random.Random(4)
        for time in range(12):
            ways = some_net(dice, dice.randrange(1, 10))
            self.net(ways, lambda world: (world + time) % 2 == 0, dice)


if __name__ == "__main__":
    unittest.main()
