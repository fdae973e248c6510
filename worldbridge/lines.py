"""Lines to worlds, over which calls may fail, and books, which outlast a bridge."""

from worldbridge.errors import Cut, Fallen

GOOD = "good"


def refuse_undone(word):
    """What becomes of a call that isn't done."""
    if word == "lost":
        raise Cut("the call didn't come to its world")
    if word == "fall":
        raise Fallen("the bridge fell ahead of the call")


def refuse_done(word):
    """What becomes of the answer to a call that is done."""
    if word == "deaf":
        raise Cut("the answer didn't come back")
    if word == "end":
        raise Fallen("the bridge fell behind the call")


class Line:
    """The calls of one world, some of which fail as the line is armed."""

    def __init__(self, world):
        self.world = world
        self.words = []
        self.made = 0

    def begin(self):
        """Counts a call, and tells its word, if it is to be done."""
        self.made += 1
        word = self.words.pop(0) if self.words else GOOD
        refuse_undone(word)
        return word

    def write(self, row, key, body):
        word = self.begin()
        place = self.world.write(row, key, body)
        refuse_done(word)
        return place

    def read(self, row, place, many):
        word = self.begin()
        letters = self.world.read(row, place, many)
        refuse_done(word)
        return letters

    def long(self, row):
        word = self.begin()
        many = self.world.long(row)
        refuse_done(word)
        return many

    def put(self, box, key, body):
        word = self.begin()
        self.world.put(box, key, body)
        refuse_done(word)

    def take(self, box):
        word = self.begin()
        taken = self.world.take(box)
        refuse_done(word)
        return taken

    def done(self, ticket):
        word = self.begin()
        gone = self.world.done(ticket)
        refuse_done(word)
        return gone

    def name(self):
        return self.world.name()

    def kind(self):
        return self.world.kind()

    def arm(self, words):
        self.words = list(words)

    def calls(self):
        return self.made


def copied(worth):
    """A copy throughout: neither who puts nor who gets may change what a book keeps."""
    if isinstance(worth, list):
        return [copied(item) for item in worth]
    if isinstance(worth, tuple):
        return tuple([copied(item) for item in worth])
    if isinstance(worth, dict):
        return {key: copied(worth[key]) for key in worth}
    return worth


class Book:
    """Keeps what is put into its slots, whatever bridge falls."""

    def __init__(self):
        self.slots = {}
        # How many puts are done ahead of the one that fails; None if none will.
        self.puts = None

    def put(self, slot, worth):
        if self.puts is not None:
            self.count_down()
        self.slots[slot] = copied(worth)

    def count_down(self):
        if self.puts <= 0:
            self.puts = None
            raise Fallen("the bridge fell ahead of a put into its book")
        self.puts -= 1

    def get(self, slot):
        return copied(self.slots[slot]) if slot in self.slots else None

    def arm(self, many):
        self.puts = many
