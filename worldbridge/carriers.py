"""How the letters of one way are brought."""

from worldbridge.worlds import MOST_READ


def letters_of(line, row):
    """All letters of a row: an answer that is shorter than asked for is its end."""
    letters = []
    latest = line.read(row, 0, MOST_READ)
    while len(latest) == MOST_READ:
        letters.extend(latest)
        latest = line.read(row, len(letters), MOST_READ)
    return letters + latest


class Carrier:
    """Brings the letters of one way, one by one.

    It keeps nothing in itself, so that a new one goes on as well as this one:
    its slot of the book has (tries, over), two dicts by letters' names. tries
    counts how often a letter may have been put into a box that doesn't know
    names; over has those that are known to be in the target.
    """

    def __init__(self, source, start, target, goal, book, slot):
        self.source = source
        self.start = start
        self.target = target
        self.goal = goal
        self.book = book
        self.slot = slot

    def go(self):
        """Whether by this a letter is known to be over; Cut and Fallen go through."""
        sort, knows = self.source.kind()
        if sort == "rows":
            return self.go_from_row()
        return self.go_from_box()

    def go_from_row(self):
        letter = self.first_due()
        if letter is None:
            return False
        key, body = letter
        self.bring(key, body)
        return True

    def first_due(self):
        """The first letter of the row that is to be brought yet, or None."""
        tries, over = self.kept()
        for key, body in letters_of(self.source, self.start):
            if self.is_due(key, over):
                return (key, body)
        return None

    def go_from_box(self):
        taken = self.source.take(self.start)
        if taken is None:
            return False
        ticket, key, body = taken
        tries, over = self.kept()
        due = self.is_due(key, over)
        # A letter that isn't done yet comes back by its lease, so nothing is lost whatever fails ahead of done.
        if due:
            self.bring(key, body)
        self.source.done(ticket)
        return due

    def is_due(self, key, over):
        world, writer, number = key
        return world != self.target.name() and key not in over

    def bring(self, key, body):
        sort, knows = self.target.kind()
        if sort == "rows":
            self.bring_to_row(key, body, knows)
        else:
            self.bring_to_box(key, body, knows)
        self.keep_over(key)

    def bring_to_row(self, key, body, knows):
        # Other bridges may write into the row, too, so it is read each time, just ahead of the write.
        if knows or key not in [name for name, other in letters_of(self.target, self.goal)]:
            self.target.write(self.goal, key, body)

    def bring_to_box(self, key, body, knows):
        # Kept ahead of the put: whoever comes behind a fall must know that it may have been done.
        if not knows:
            self.keep_try(key)
        self.target.put(self.goal, key, body)

    def kept(self):
        worth = self.book.get(self.slot)
        return ({}, {}) if worth is None else worth

    def keep_try(self, key):
        tries, over = self.kept()
        tries[key] = tries[key] + 1 if key in tries else 1
        self.book.put(self.slot, (tries, over))

    def keep_over(self, key):
        tries, over = self.kept()
        over[key] = True
        self.book.put(self.slot, (tries, over))

    def maybe_twice(self):
        tries, over = self.kept()
        return sorted([key for key in tries if tries[key] > 1])
