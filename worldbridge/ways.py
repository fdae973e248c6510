"""What ways there are, and which of them one bridge may have."""

from worldbridge.errors import BadWays
from worldbridge.letters import is_row

OVER = "over"
BACK = "back"
MOST_WAYS = 6


def is_way(way):
    """Whether it is a way by itself, whatever others stand beside it."""
    if not isinstance(way, tuple) or len(way) != 3:
        return False
    word, start, goal = way
    return word in (OVER, BACK) and is_row(start) and is_row(goal)


def check_each(ways):
    if not isinstance(ways, list):
        raise BadWays("ways are a list")
    if [way for way in ways if not is_way(way)]:
        raise BadWays("there is no such way")


def starts(ways, direction):
    return [start for word, start, goal in ways if word == direction]


def goals(ways, direction):
    return [goal for word, start, goal in ways if word == direction]


def has_twice(rows):
    return len([row for row in rows if rows.count(row) > 1]) > 0


def check_apart(ways, direction):
    if has_twice(starts(ways, direction)) or has_twice(goals(ways, direction)):
        raise BadWays("two ways of one direction begin or end at one")


def check_no_ring(kind, begun, ended):
    """Who takes from a box would take again what the other way brings there."""
    sort, knows = kind
    if sort == "boxes" and [row for row in begun if row in ended]:
        raise BadWays("a way begins at a box at which one of the other direction ends")


def check_ways(here, there, ways):
    """Whether a bridge between worlds of these kinds may have these ways."""
    check_each(ways)
    if not 1 <= len(ways) <= MOST_WAYS:
        raise BadWays("a bridge has one to six ways")
    check_apart(ways, OVER)
    check_apart(ways, BACK)
    check_no_ring(here, starts(ways, OVER), goals(ways, BACK))
    check_no_ring(there, starts(ways, BACK), goals(ways, OVER))
