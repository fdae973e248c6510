"""Values that the tests of several files hand in."""

# None of these is a number, whichever number is asked for.
NO_NUMBERS = ["0", "", "1", None, True, False, (), (0,), (0, 0, 0)]

A = (1, 0, 0)
B = (1, 0, 1)
C = (2, 3, 4)
D = (9, 9, 999)


def beside(low, high):
    """Wrong values for a number from low to high."""
    return [low - 1, high + 1, -(10 ** 9), 10 ** 5000] + NO_NUMBERS


def wrong_keys():
    keys = [0, 7, "", "100", "abc", None, True, False, (), (1,), (1, 0), (1, 0, 0, 0), ((1, 0, 0),)]
    keys += [(world, 0, 0) for world in beside(0, 9)]
    keys += [(0, writer, 0) for writer in beside(0, 9)]
    keys += [(0, 0, number) for number in beside(0, 999)]
    return keys


def right_keys():
    return [(0, 0, 0), (9, 0, 0), (0, 9, 0), (0, 0, 999), (9, 9, 999), (4, 5, 321)]
