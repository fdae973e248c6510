"""Bridges, which carry letters between two worlds."""

from worldbridge.carriers import Carrier
from worldbridge.errors import BadWays, Cut, Fallen
from worldbridge.letters import is_between
from worldbridge.ways import OVER, check_ways


def made_carrier(here, there, book, way, slot):
    word, start, goal = way
    if word == OVER:
        return Carrier(here, start, there, goal, book, slot)
    return Carrier(there, start, here, goal, book, slot)


class Bridge:
    """Two lines, a book and the ways between; made anew behind a fall it goes on by its book."""

    def __init__(self, here, there, book, ways):
        if here.name() == there.name():
            raise BadWays("a bridge has worlds of unlike names")
        check_ways(here.kind(), there.kind(), ways)
        self.carriers = [made_carrier(here, there, book, way, slot) for slot, way in enumerate(ways)]
        self.fallen = False

    def step(self, number):
        carrier = self.carrier_of(number)
        if self.fallen:
            raise Fallen("this bridge fell before")
        try:
            return carrier.go()
        except Cut:
            return False
        except Fallen:
            self.fallen = True
            raise

    def doubtful(self, number):
        return self.carrier_of(number).maybe_twice()

    def carrier_of(self, number):
        if not is_between(number, 0, len(self.carriers) - 1):
            raise BadWays("the bridge has no way of this number")
        return self.carriers[number]
