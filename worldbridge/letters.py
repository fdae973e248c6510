"""What names of worlds, rows, boxes and letters, and what bodies there are."""

from worldbridge.errors import BadLetter, BadWorld

WORLDS = 10
# Rows and boxes are numbered alike, so both are checked as rows.
ROWS = 6
WRITERS = 10
NUMBERS = 1000
BODIES = 1000


def is_whole(value):
    """True and False are ints to Python, but no numbers here."""
    return isinstance(value, int) and not isinstance(value, bool)


def is_between(value, low, high):
    return is_whole(value) and low <= value <= high


def is_world(name):
    return is_between(name, 0, WORLDS - 1)


def is_row(row):
    return is_between(row, 0, ROWS - 1)


def is_key(key):
    if not isinstance(key, tuple) or len(key) != 3:
        return False
    world, writer, number = key
    return is_world(world) and is_between(writer, 0, WRITERS - 1) and is_between(number, 0, NUMBERS - 1)


def is_body(body):
    return is_between(body, 0, BODIES - 1)


# The refusals below don't show the value: Python can't write every number out.


def check_world(name):
    if not is_world(name):
        raise BadWorld("no world has such a name")


def check_row(row):
    if not is_row(row):
        raise BadLetter("there is no such row or box")


def check_letter(row, key, body):
    """What is handed in first is refused first."""
    check_row(row)
    if not is_key(key):
        raise BadLetter("no letter has such a name")
    if not is_body(body):
        raise BadLetter("no letter has such a body")
