"""Which promises hold between which worlds, and where letters come by many bridges."""

from worldbridge.errors import BadWays, BadWorld
from worldbridge.letters import is_row, is_world

MOST_NET_WAYS = 15
# The put is done but its answer is lost, so that it must be done again.
TWICE_FROM_ROW = (("letter", 0), ("there", ("deaf",)), ("step",), ("step",))
# The same; but the letter is had again only when its lease is over.
TWICE_FROM_BOX = (("letter", 0), ("there", ("deaf",)), ("step",), ("turn",), ("step",))
# Letter 0 is taken without anybody's knowing; until its lease is over letter 1 is brought.
OUT_OF_ORDER = (("letter", 0), ("letter", 1), ("here", ("deaf",)), ("step",), ("step",), ("turn",), ("step",))


def is_kind(kind):
    if not isinstance(kind, tuple) or len(kind) != 2:
        return False
    sort, knows = kind
    return sort in ("rows", "boxes") and isinstance(knows, bool)


def check_kind(kind):
    if not is_kind(kind):
        raise BadWorld("no world is of this kind")


def held(source, target):
    check_kind(source)
    check_kind(target)
    return (True, target != ("boxes", False), source[0] == "rows")


def broken(source, target):
    none_lost, once, in_order = held(source, target)
    twice = TWICE_FROM_ROW if source[0] == "rows" else TWICE_FROM_BOX
    return (None if once else list(twice), None if in_order else list(OUT_OF_ORDER))


def is_row_of_world(value):
    if not isinstance(value, tuple) or len(value) != 2:
        return False
    world, row = value
    return is_world(world) and is_row(row)


def is_net_way(way):
    if not isinstance(way, tuple) or len(way) != 4:
        return False
    return is_row_of_world(way[:2]) and is_row_of_world(way[2:]) and way[0] != way[2]


def check_net(ways):
    if not isinstance(ways, list) or len(ways) > MOST_NET_WAYS:
        raise BadWays("a net is a list of at most fifteen ways")
    if [way for way in ways if not is_net_way(way)]:
        raise BadWays("a net has no such way")


def check_row_of_world(value):
    if not is_row_of_world(value):
        raise BadWays("there is no such row of a world")


def shortest_lists(ways, start):
    """By (world, row): the first of the shortest lists of ways by which a letter comes there."""
    found = {start: []}
    latest = [start]
    while latest:
        following = []
        # Lists of one length ascend here, so the one by which a row is found first is its first one.
        for at in latest:
            for number, way in enumerate(ways):
                there = way[2:]
                if way[:2] == at and there[0] != start[0] and there not in found:
                    found[there] = found[at] + [number]
                    following.append(there)
        latest = following
    return found


def reaches(ways, start):
    check_net(ways)
    check_row_of_world(start)
    return sorted([at for at in shortest_lists(ways, start) if at != start])


def shortest(ways, start, goal):
    check_net(ways)
    check_row_of_world(start)
    check_row_of_world(goal)
    found = shortest_lists(ways, start)
    return found[goal] if goal in found else None
