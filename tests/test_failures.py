"""[10], [11] and [12]: every failure at every call, for all pairs of sorts."""

import unittest

from journeys import KINDS, PAIRS, Journey, double_failures, single_failures

SOURCE, TARGET = 1, 2


def journey_of(case, kinds, direction, failing, lease=1, anew=False):
    """A journey with one way, and letters on both sides ahead."""
    source, target = kinds
    journey = Journey(case, {SOURCE: source, TARGET: target}, lease, anew)
    here, there = (SOURCE, TARGET) if direction == "over" else (TARGET, SOURCE)
    crossing = journey.crossing(here, there, [(direction, 4, 5)], failing)
    return journey, crossing


def short_work(case, kinds, direction="over", failing=((), (), ()), **more):
    """Two letters, one of the target's own world between them; then all must be over."""
    journey, crossing = journey_of(case, kinds, direction, failing, **more)
    journey.letter(TARGET, 5, (TARGET, 9, 9))
    for key in ((SOURCE, 0, 3), (TARGET, 0, 0), (SOURCE, 0, 1)):
        journey.letter(SOURCE, 4, key)
    for step in range(3):
        journey.step(crossing, 0)
        journey.turn(SOURCE)
    counts = crossing.counts()
    journey.settle(crossing, 0)
    return counts


def long_work(case, kinds, direction="over", failing=((), (), ()), turns=1, **more):
    """Letters ahead, one whose name is in the target already, and others that come meanwhile."""
    journey, crossing = journey_of(case, kinds, direction, failing, **more)
    for key in ((3, 1, 1), (TARGET, 9, 9), (SOURCE, 9, 9)):
        journey.letter(TARGET, 5, key)
    for key in ((SOURCE, 0, 3), (TARGET, 0, 0), (3, 1, 1), (SOURCE, 0, 1)):
        journey.letter(SOURCE, 4, key)
    for step in range(7):
        journey.step(crossing, 0)
        for turn in range(turns):
            journey.turn(SOURCE)
        if step == 1:
            journey.letter(SOURCE, 4, (TARGET, 0, 1))
            journey.letter(SOURCE, 4, (4, 0, 0))
        if step == 3:
            journey.letter(TARGET, 5, (5, 0, 0))
            journey.letter(SOURCE, 4, (5, 0, 0))
    counts = crossing.counts()
    journey.settle(crossing, 0)
    return counts


class Nothing(unittest.TestCase):
    def test_fails(self):
        for kinds in PAIRS:
            for direction in ("over", "back"):
                for anew in (True, False):
                    with self.subTest(kinds=kinds, direction=direction, anew=anew):
                        short_work(self, kinds, direction, anew=anew)
                        long_work(self, kinds, direction, anew=anew)

    def test_and_nothing_is_there(self):
        for kinds in PAIRS:
            journey, crossing = journey_of(self, kinds, "over", ((), (), ()))
            for step in range(3):
                self.assertIs(journey.step(crossing, 0), False)
            self.assertEqual(crossing.book.puts_asked, 0)
            journey.settle(crossing, 0)


class One(unittest.TestCase):
    def works(self, kinds, **more):
        for direction in ("over", "back"):
            here, there, puts = long_work(self, kinds, direction, **more)
            for failing in single_failures((here, there, puts)):
                with self.subTest(kinds=kinds, direction=direction, failing=failing, **more):
                    long_work(self, kinds, direction, failing, **more)

    def test_failure_at_each_call(self):
        for kinds in PAIRS:
            self.works(kinds)

    def test_failure_with_a_bridge_that_is_made_anew_behind_each_step(self):
        for kinds in PAIRS:
            self.works(kinds, anew=True)

    def test_failure_without_turns_until_all_is_good(self):
        for target in KINDS:
            for kinds in ((("boxes", True), target), (("boxes", False), target)):
                self.works(kinds, turns=0)

    def test_failure_with_longer_leases(self):
        for target in KINDS:
            self.works((("boxes", False), target), lease=2)
            self.works((("boxes", True), target), lease=5)


class Two(unittest.TestCase):
    def works(self, kinds):
        counts = short_work(self, kinds)
        for failing in double_failures(counts):
            with self.subTest(kinds=kinds, failing=failing):
                short_work(self, kinds, failing=failing)

    def test_failures_at_all_pairs_of_calls_from_rows(self):
        for kinds in PAIRS:
            if kinds[0][0] == "rows":
                self.works(kinds)

    def test_failures_at_all_pairs_of_calls_from_boxes(self):
        for kinds in PAIRS:
            if kinds[0][0] == "boxes":
                self.works(kinds)


class Always(unittest.TestCase):
    """The same failure again and again."""

    def test_one_call_after_the_other(self):
        for kinds in PAIRS:
            for word in ("lost", "deaf", "fall", "end"):
                for good in (0, 1, 2, 3):
                    words = (["good"] * good + [word]) * 20
                    for failing in ((words, [], []), ([], words, []), (words, words, []), ([], [], [good] * 20)):
                        with self.subTest(kinds=kinds, failing=failing):
                            long_work(self, kinds, failing=failing)
                            long_work(self, kinds, failing=failing, anew=True)


if __name__ == "__main__":
    unittest.main()
