"""Several ways of one bridge, several bridges to one target, and bridges in a row."""

import random
import unittest

from journeys import KINDS, PAIRS, WORDS, Journey, single_failures

GOOD = ((), (), ())


def round_trip(journey, rounds):
    """Each way of each bridge has its step, and each world its turn."""
    for time in range(rounds):
        for crossing in journey.crossings:
            for number in range(len(crossing.ways)):
                journey.step(crossing, number)
        journey.turns()


class SeveralWays(unittest.TestCase):
    def six(self, kinds, failing):
        """Three over and three back, each with letters of its own."""
        journey = Journey(self, {1: kinds[0], 2: kinds[1]})
        ways = [("over", 0, 0), ("back", 5, 5), ("over", 1, 2), ("back", 3, 3), ("over", 2, 1), ("back", 4, 4)]
        crossing = journey.crossing(1, 2, ways, failing)
        for number, (word, start, goal) in enumerate(ways):
            source, target = (1, 2) if word == "over" else (2, 1)
            for key in ((source, number, 0), (target, number, 1), (3, number, 2)):
                journey.letter(source, start, key)
        round_trip(journey, 3)
        self.counts = crossing.counts()
        journey.settle_all()
        return journey

    def test_six_at_once(self):
        for kinds in PAIRS:
            journey = self.six(kinds, GOOD)
            for (world, row), names in journey.arrived.items():
                self.assertEqual(len(names), len(set(names)), (world, row))
            for failing in single_failures(self.counts):
                with self.subTest(kinds=kinds, failing=failing):
                    self.six(kinds, failing)

    def over_and_back(self, kinds, failing, ways):
        journey = Journey(self, {1: kinds[0], 2: kinds[1]})
        crossing = journey.crossing(1, 2, ways, failing)
        for world in (1, 2):
            for key in ((world, 0, 0), (3 - world, 1, world), (3, world, 0), (4, 0, 0)):
                journey.letter(world, 0, key)
        round_trip(journey, 3)
        self.counts = crossing.counts()
        journey.settle_all()
        return journey

    def test_over_and_back_between_the_same_two_rows(self):
        rows = [("rows", True), ("rows", False)]
        for kinds in [(here, there) for here in rows for there in rows]:
            for ways in ([("over", 0, 0), ("back", 0, 0)], [("back", 0, 0), ("over", 0, 0)]):
                journey = self.over_and_back(kinds, GOOD, ways)
                # Letters of 3 and 4 are once in each; those of 1 and 2 don't come home.
                self.assertEqual(sorted(journey.arrived[1, 0]), [(1, 0, 0), (2, 0, 0), (2, 1, 1), (3, 1, 0), (3, 2, 0),
                                                                (4, 0, 0)])
                self.assertEqual(sorted(journey.arrived[2, 0]), [(1, 0, 0), (1, 1, 2), (2, 0, 0), (3, 1, 0), (3, 2, 0),
                                                                (4, 0, 0)])
                for failing in single_failures(self.counts):
                    with self.subTest(kinds=kinds, ways=ways, failing=failing):
                        self.over_and_back(kinds, failing, ways)

    def test_a_row_at_which_one_way_ends_and_the_other_begins(self):
        for here in KINDS:
            for there in (("rows", True), ("rows", False)):
                # Over ends at the row at which back begins; back ends elsewhere.
                ways = [("over", 0, 0), ("back", 0, 1)]
                self.over_and_back((here, there), GOOD, ways)
                for failing in single_failures(self.counts):
                    with self.subTest(here=here, there=there, failing=failing):
                        self.over_and_back((here, there), failing, ways)


class SeveralBridges(unittest.TestCase):
    """Three bridges, with a book each, to one row, or to one box that knows names."""

    def work(self, sources, target, failing, between=2):
        journey = Journey(self, {1: sources[0], 2: sources[1], 3: sources[2], 5: target})
        journey.letter(5, 0, (7, 7, 7))
        for number, world in enumerate((1, 2, 3)):
            # One bridge is made the other way about.
            here, there, way = (world, 5, ("over", 0, 0)) if number != 1 else (5, world, ("back", 0, 0))
            journey.crossing(here, there, [way], failing if number == between else GOOD)
            for key in ((world, 0, 0), (6, 0, 0), (6, 0, 1), (5, 0, 0), (7, 7, 7)):
                journey.letter(world, 0, key)
        journey.letter(2, 0, (6, 0, 2))
        round_trip(journey, 5)
        journey.settle_all()
        return journey

    def test_each_letter_comes_once(self):
        for target in KINDS[:3]:
            for sources in ([("rows", False)] * 3, [("boxes", False)] * 3, KINDS[1:]):
                journey = self.work(sources, target, GOOD)
                self.assertEqual(sorted(journey.arrived[5, 0]), [(1, 0, 0), (2, 0, 0), (3, 0, 0), (6, 0, 0), (6, 0, 1),
                                                                (6, 0, 2), (7, 7, 7)])
                for between in (0, 1, 2):
                    counts = journey.crossings[between].counts()
                    for failing in single_failures(counts):
                        with self.subTest(sources=sources, target=target, failing=failing, between=between):
                            self.work(sources, target, failing, between)


class InARow(unittest.TestCase):
    def chain(self, kinds, failing, where=0):
        """From world 1 by 2 and 3 to 4, and from there towards 1 again."""
        journey = Journey(self, dict(enumerate(kinds, 1)))
        for number, (here, there) in enumerate(((1, 2), (2, 3), (3, 4), (4, 1))):
            goal = 1 if there == 1 else 0
            journey.crossing(here, there, [("over", 0, goal)], failing if number == where else GOOD)
        for key in ((1, 0, 0), (9, 0, 0), (3, 0, 0)):
            journey.letter(1, 0, key)
        journey.letter(2, 0, (9, 0, 1))
        journey.letter(3, 0, (9, 0, 0))
        round_trip(journey, 6)
        journey.settle_all()
        return journey

    def test_letters_go_from_world_to_world(self):
        for kinds in ([kind] * 4 for kind in KINDS):
            journey = self.chain(kinds, GOOD)
            self.assertEqual(sorted(set(journey.arrived[4, 0])), [(1, 0, 0), (9, 0, 0), (9, 0, 1)])
            # (3, 0, 0) got no further than 2, as the next way goes into its own world; (1, 0, 0) isn't brought home.
            self.assertEqual(sorted(set(journey.arrived[2, 0])), [(1, 0, 0), (3, 0, 0), (9, 0, 0), (9, 0, 1)])
            self.assertEqual(sorted(set(journey.arrived[1, 1])), [(9, 0, 0), (9, 0, 1)])

    def test_whatever_fails_at_one_of_them(self):
        mixed = [[first, second, third, last] for first in KINDS[1::2] for second in KINDS for third in KINDS
                 for last in KINDS[2:]]
        for kinds in mixed:
            counts = [crossing.counts() for crossing in self.chain(kinds, GOOD).crossings]
            for where in (0, 1, 2, 3):
                for failing in single_failures(counts[where]):
                    with self.subTest(kinds=kinds, failing=failing, where=where):
                        self.chain(kinds, failing, where)


class LongRows(unittest.TestCase):
    """More letters than one read tells."""

    def test_a_hundred_letters(self):
        for kinds in PAIRS:
            journey = Journey(self, {1: kinds[0], 2: kinds[1]})
            crossing = journey.crossing(1, 2, [("over", 0, 0)])
            for number in range(100):
                journey.letter(1, 0, (1 + (number % 10 == 4), 0, number))
                journey.letter(2, 0, (1, 0, 99 - number) if number % 7 == 0 else (2, 1, number))
            journey.settle(crossing, 0)

    def test_each_length_around_what_one_read_tells(self):
        for kinds in PAIRS:
            for many in (19, 20, 21, 40, 41):
                for word in WORDS:
                    journey = Journey(self, {1: kinds[0], 2: kinds[1]})
                    crossing = journey.crossing(1, 2, [("over", 0, 0)], ([], ["good"] * (many + 3) + [word] * 2, []))
                    for number in range(many):
                        journey.letter(1, 0, (1, 0, number))
                    for step in range(many):
                        journey.step(crossing, 0)
                        journey.turn(1)
                    journey.settle(crossing, 0)


class Anyhow(unittest.TestCase):
    """Worlds, bridges, letters and failures as dice fall (the same dice each time)."""

    def failing(self, dice, often):
        def words():
            return [dice.choice(WORDS) if dice.random() < often else "good" for call in range(60)]
        return (words(), words(), [dice.randrange(6) for fall in range(dice.randrange(8))] if often else [])

    def crossings(self, dice, journey, often):
        """Bridges between some of the worlds; from a box goes one way at the most, and to one that knows no names."""
        taken_from, put_into = set(), set()
        for time in range(dice.randrange(1, 5)):
            here, there = dice.sample(sorted(journey.worlds), 2)
            ways = []
            for attempt in range(dice.randrange(1, 9)):
                word, start, goal = dice.choice(("over", "back")), dice.randrange(3), dice.randrange(3)
                source, target = (here, there) if word == "over" else (there, here)
                kinds = [journey.worlds[world].kind() for world in (source, target)]
                same = [way for way in ways if way[0] == word and (way[1] == start or way[2] == goal)]
                other = [way for way in ways if way[0] != word and (
                    kinds[0][0] == "boxes" and way[2] == start or kinds[1][0] == "boxes" and way[1] == goal)]
                if same or other or len(ways) == 6:
                    continue
                if kinds[0][0] == "boxes" and (source, start) in taken_from:
                    continue
                if kinds[1] == ("boxes", False) and (target, goal) in put_into:
                    continue
                ways.append((word, start, goal))
                taken_from.add((source, start))
                put_into.add((target, goal))
            if ways:
                journey.crossing(here, there, ways, self.failing(dice, often))

    def one(self, seed):
        dice = random.Random(seed)
        often = dice.choice((0, 0.05, 0.2, 0.5))
        journey = Journey(self, {name: dice.choice(KINDS) for name in dice.sample(range(10), 4)},
                          dice.randrange(1, 6), dice.random() < 0.3)
        self.crossings(dice, journey, often)
        worlds, written = sorted(journey.worlds), set()
        for time in range(120):
            if not journey.crossings:
                return
            event = dice.random()
            if event < 0.2:
                world, row = dice.choice(worlds), dice.randrange(3)
                key = (dice.choice(worlds), 0, dice.randrange(4))
                # Outside of bridges no name is written twice; and none behind a bridge, so that it is there once.
                if (world, row, key) not in written and key not in journey.arrived[world, row]:
                    journey.letter(world, row, key)
                written.add((world, row, key))
            elif event < 0.3:
                journey.turn(dice.choice(worlds))
            else:
                crossing = dice.choice(journey.crossings)
                journey.step(crossing, dice.randrange(len(crossing.ways)))
        journey.settle_all()

    def test_what_is_promised_holds(self):
        for seed in range(400):
            with self.subTest(seed=seed):
                self.one(seed)


if __name__ == "__main__":
    unittest.main()
