"""Worlds that keep letters, in rows or in boxes."""

from worldbridge.errors import BadPlace, BadWorld
from worldbridge.letters import ROWS, check_letter, check_row, check_world, is_between, is_whole

LAST_PLACE = 1000000
MOST_READ = 20
LONGEST_LEASE = 5


def check_knows(knows):
    if not isinstance(knows, bool):
        raise BadWorld("a world knows names or doesn't, which is a truth")


def check_lease(lease):
    if not is_between(lease, 1, LONGEST_LEASE):
        raise BadWorld("there is no such lease")


def check_part(place, many):
    if not is_between(place, 0, LAST_PLACE):
        raise BadPlace("there is no such place")
    if not is_between(many, 1, MOST_READ):
        raise BadPlace("so many letters can't be read")


class Rows:
    """A world whose letters stay in rows and are read by their places."""

    def __init__(self, name, knows):
        check_world(name)
        check_knows(knows)
        self.world = name
        self.knows = knows
        self.rows = [[] for row in range(ROWS)]
        self.places = [{} for row in range(ROWS)]

    def write(self, row, key, body):
        check_letter(row, key, body)
        places = self.places[row]
        if self.knows and key in places:
            return places[key]
        place = len(self.rows[row])
        self.rows[row].append((key, body))
        places[key] = place
        return place

    def read(self, row, place, many):
        check_row(row)
        check_part(place, many)
        return self.rows[row][place:place + many]

    def long(self, row):
        check_row(row)
        return len(self.rows[row])

    def kind(self):
        return ("rows", self.knows)

    def name(self):
        return self.world


class Boxes:
    """A world whose letters are taken out of boxes, on a lease."""

    def __init__(self, name, knows, lease):
        check_world(name)
        check_knows(knows)
        check_lease(lease)
        self.world = name
        self.knows = knows
        self.lease = lease
        self.waiting = [[] for box in range(ROWS)]
        self.known = [{} for box in range(ROWS)]
        # By ticket: (box, letter, the turn at which it waits again).
        self.taken = {}
        self.tickets = 0
        self.turns = 0

    def put(self, box, key, body):
        check_letter(box, key, body)
        if self.knows and key in self.known[box]:
            return
        self.known[box][key] = True
        self.waiting[box].append((key, body))

    def take(self, box):
        check_row(box)
        if not self.waiting[box]:
            return None
        letter = self.waiting[box].pop(0)
        ticket = self.tickets
        self.tickets += 1
        self.taken[ticket] = (box, letter, self.turns + self.lease)
        key, body = letter
        return (ticket, key, body)

    def done(self, ticket):
        # True would find ticket 1, as Python takes both for the same key.
        if not is_whole(ticket) or ticket not in self.taken:
            return False
        del self.taken[ticket]
        return True

    def turn(self):
        self.turns += 1
        due = [ticket for ticket in sorted(self.taken) if self.taken[ticket][2] <= self.turns]
        for ticket in due:
            box, letter, until = self.taken.pop(ticket)
            self.waiting[box].append(letter)

    def left(self, box):
        check_row(box)
        taken = [self.taken[ticket] for ticket in sorted(self.taken)]
        return self.waiting[box] + [letter for where, letter, until in taken if where == box]

    def kind(self):
        return ("boxes", self.knows)

    def name(self):
        return self.world
