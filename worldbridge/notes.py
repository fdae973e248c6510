"""Ways written as texts, and read from them."""

from worldbridge.errors import BadText
from worldbridge.letters import ROWS
from worldbridge.ways import BACK, OVER, check_each


def written(ways):
    check_each(ways)
    return "\n".join([f"{word} {start} {goal}" for word, start, goal in ways])


def read(text):
    # No ways are the empty text, which splits into one row.
    if text == "":
        return []
    return [read_way(row, number) for number, row in enumerate(text.split("\n"))]


def read_way(row, number):
    parts = row.split(" ")
    if len(parts) != 3 or parts[0] not in (OVER, BACK):
        raise BadText(number)
    # Only as they are written: int would also take "01", "+1" and "1_0".
    digits = [str(digit) for digit in range(ROWS)]
    if parts[1] not in digits or parts[2] not in digits:
        raise BadText(number)
    return (parts[0], int(parts[1]), int(parts[2]))
