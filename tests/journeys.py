"""Worlds with bridges between them, watched from outside: each step is held against the document as it is done."""

from collections import Counter

from worldbridge.bridge import Bridge
from worldbridge.errors import Fallen
from worldbridge.lines import Book, Line
from worldbridge.worlds import Boxes, Rows

KINDS = [("rows", True), ("rows", False), ("boxes", True), ("boxes", False)]
PAIRS = [(source, target) for source in KINDS for target in KINDS]
WORDS = ["lost", "deaf", "fall", "end"]
CUTS = ["lost", "deaf"]
FALLS = ["fall", "end"]
NEVER = 10 ** 9


def made_world(kind, name, lease=1):
    sort, knows = kind
    return Rows(name, knows) if sort == "rows" else Boxes(name, knows, lease)


def letters_in(world, row):
    """All letters of a row, or all that are left in a box."""
    if world.kind()[0] == "boxes":
        return world.left(row)
    return [world.read(row, place, 1)[0] for place in range(world.long(row))]


def add(world, row, key, body):
    """A letter from outside."""
    if world.kind()[0] == "boxes":
        world.put(row, key, body)
    else:
        world.write(row, key, body)


class WatchedLine(Line):
    """Keeps (call, arguments, word) of each call."""

    def __init__(self, world, words=()):
        super().__init__(world)
        self.log = []
        self.plan = list(words)
        self.arm(self.plan)

    def noted(self, call, *args):
        at = len(self.log)
        self.log.append((call, args, self.plan[at] if at < len(self.plan) else "good"))
        return getattr(Line, call)(self, *args)

    def write(self, row, key, body):
        return self.noted("write", row, key, body)

    def read(self, row, place, many):
        return self.noted("read", row, place, many)

    def long(self, row):
        return self.noted("long", row)

    def put(self, box, key, body):
        return self.noted("put", box, key, body)

    def take(self, box):
        return self.noted("take", box)

    def done(self, ticket):
        return self.noted("done", ticket)

    def heal(self):
        """Nothing fails any more."""
        self.plan = self.plan[:len(self.log)]
        self.arm([])


class WatchedBook(Book):
    """Armed anew behind each fall, as long as there are numbers."""

    def __init__(self, falls=()):
        super().__init__()
        self.puts_asked = 0
        self.falls = 0
        self.plan = list(falls)
        self.arm_next()

    def arm_next(self):
        self.arm(self.plan.pop(0) if self.plan else NEVER)

    def put(self, slot, worth):
        self.puts_asked += 1
        try:
            super().put(slot, worth)
        except Fallen:
            self.falls += 1
            self.arm_next()
            raise

    def heal(self):
        self.plan = []
        self.arm_next()


class Crossing:
    """A bridge with its lines and its book."""

    def __init__(self, here, there, ways, failing=((), (), ())):
        words_here, words_there, falls = failing
        self.here, self.there = WatchedLine(here, words_here), WatchedLine(there, words_there)
        self.book = WatchedBook(falls)
        self.ways = ways
        self.bridge = Bridge(self.here, self.there, self.book, self.ways)
        # By the number of a way: the names that it brought, and how often it told True.
        self.brought = {number: [] for number in range(len(ways))}
        self.trues = Counter()

    def ends(self, number):
        """(source's line, start, target's line, goal)."""
        word, start, goal = self.ways[number]
        return (self.here, start, self.there, goal) if word == "over" else (self.there, start, self.here, goal)

    def counts(self):
        return (self.here.calls(), self.there.calls(), self.book.puts_asked)

    def words(self):
        return [word for line in (self.here, self.there) for call, args, word in line.log]

    def failures(self):
        return len([word for word in self.words() if word != "good"]) + self.book.falls

    def heal(self):
        for thing in (self.here, self.there, self.book):
            thing.heal()


class Journey:
    """case is the unittest that is told what doesn't hold."""

    def __init__(self, case, kinds, lease=1, anew=False):
        self.case = case
        self.worlds = {name: made_world(kind, name, lease) for name, kind in kinds.items()}
        # Whether each bridge is made anew behind each step.
        self.anew_always = anew
        self.crossings = []
        # By (world, row): all names that ever came there, in turn.
        self.arrived = {(name, row): [] for name in kinds for row in range(6)}
        self.bodies = {}

    def letter(self, world, row, key, body=None):
        body = sum(key) % 1000 if body is None else body
        before = self.look(world, row)
        add(self.worlds[world], row, key, body)
        self.bodies[key] = body
        self.arrived[world, row] += self.came(before, world, row)

    def look(self, world, row):
        return Counter(name for name, body in letters_in(self.worlds[world], row))

    def came(self, before, world, row):
        return list((self.look(world, row) - before).elements())

    def crossing(self, here, there, ways, failing=((), (), ())):
        self.crossings.append(Crossing(self.worlds[here], self.worlds[there], ways, failing))
        return self.crossings[-1]

    def turn(self, world):
        if self.worlds[world].kind()[0] == "boxes":
            self.worlds[world].turn()

    def turns(self):
        for world in self.worlds:
            self.turn(world)

    def anew(self, crossing):
        before = crossing.counts()
        crossing.bridge = Bridge(crossing.here, crossing.there, crossing.book, crossing.ways)
        self.case.assertEqual(crossing.counts(), before, "made with calls or puts")

    def step(self, crossing, number):
        """One step, and all that [8] to [12] say of it; None if the bridge fell."""
        source, start, target, goal = crossing.ends(number)
        left = len(letters_in(source.world, start))
        before = self.look(target.name(), goal)
        used, falls = len(source.log), crossing.book.falls
        used_there = len(target.log)
        try:
            told = crossing.bridge.step(number)
        except Fallen:
            told = None
        words = [word for call, args, word in source.log[used:] + target.log[used_there:]]
        fell = any(word in FALLS for word in words) or crossing.book.falls > falls
        self.case.assertEqual(told is None, fell, "Fallen goes through")
        if told is None or self.anew_always:
            self.anew(crossing)
        came = self.came(before, target.name(), goal)
        self.check_came(crossing, number, came)
        self.check_told(crossing, number, told, came, any(word in CUTS for word in words))
        self.case.assertIn(left - len(letters_in(source.world, start)), (0, 1), "one letter at the most")
        self.check_doubtful(crossing, number)
        return told

    def check_came(self, crossing, number, came):
        source, start, target, goal = crossing.ends(number)
        self.case.assertLessEqual(len(came), 1, "one letter at the most")
        there = self.arrived[target.name(), goal]
        for key in came:
            self.case.assertIn(key, self.arrived[source.name(), start], "it came from nowhere")
            self.case.assertNotEqual(key[0], target.name(), "brought into its own world")
            if target.kind() != ("boxes", False):
                self.case.assertNotIn(key, there, "it came again")
            if key in crossing.brought[number]:
                self.case.assertIn(key, crossing.bridge.doubtful(number))
            crossing.brought[number].append(key)
            self.case.assertLessEqual(crossing.brought[number].count(key), 1 + crossing.failures())
            there.append(key)

    def check_told(self, crossing, number, told, came, cut):
        if told is None:
            return
        self.case.assertIsInstance(told, bool)
        if cut:
            self.case.assertIs(told, False, "a call was Cut")
        elif came:
            self.case.assertIs(told, True, "a letter came, and nothing was Cut")
        crossing.trues[number] += told
        if told:
            source, start, target, goal = crossing.ends(number)
            over = set(self.due(crossing, number)) & set(self.arrived[target.name(), goal])
            self.case.assertLessEqual(crossing.trues[number], len(over), "told oftener than letters are over")

    def check_doubtful(self, crossing, number):
        """Those that were put twice, done or not, for all that the bridge can know."""
        source, start, target, goal = crossing.ends(number)
        tried = Counter(args[1] for call, args, word in target.log if call == "put" and args[0] == goal)
        wanted = sorted(key for key in tried if tried[key] > 1) if target.kind() == ("boxes", False) else []
        told = crossing.bridge.doubtful(number)
        self.case.assertEqual(told, wanted)
        told.append("spoilt")
        self.case.assertEqual(crossing.bridge.doubtful(number), wanted)

    def due(self, crossing, number):
        """What a way has to bring, in the order in which it came to the source."""
        source, start, target, goal = crossing.ends(number)
        arrived = self.arrived[source.name(), start]
        return [key for key in dict.fromkeys(arrived) if key[0] != target.name()]

    def settle(self, crossing, number):
        """As many steps and turns as [10] gives, with nothing failing; then all must be over."""
        crossing.heal()
        source, start, target, goal = crossing.ends(number)
        if source.kind()[0] == "boxes":
            for turn in range(5):
                source.world.turn()
        for step in range(len(letters_in(source.world, start))):
            self.step(crossing, number)
        self.check_over(crossing, number)
        state = self.everything()
        self.case.assertIs(self.step(crossing, number), False, "nothing is to be brought any more")
        self.case.assertEqual(self.everything(), state)

    def check_over(self, crossing, number):
        """[10] to [12], held against what both worlds tell."""
        source, start, target, goal = crossing.ends(number)
        if source.kind()[0] == "boxes":
            self.case.assertEqual(source.world.left(start), [])
        due = self.due(crossing, number)
        self.case.assertEqual([key for key in due if key not in self.arrived[target.name(), goal]], [], "lost")
        if source.kind()[0] == "rows":
            firsts = list(dict.fromkeys(crossing.brought[number]))
            self.case.assertEqual(firsts, [key for key in due if key in firsts], "out of order")
        for key, body in letters_in(target.world, goal):
            self.case.assertEqual(body, self.bodies[key])

    def everything(self):
        return {(name, row): letters_in(self.worlds[name], row) for name in self.worlds for row in range(6)}

    def settle_all(self):
        """Each way so often that a letter may come by all of them, one behind the other."""
        for crossing in self.crossings:
            crossing.heal()
        ways = [(crossing, number) for crossing in self.crossings for number in range(len(crossing.ways))]
        before = None
        while before != self.everything():
            before = self.everything()
            for crossing, number in ways:
                self.settle(crossing, number)
        for crossing, number in ways:
            self.check_over(crossing, number)


def single_failures(counts):
    """(words here, words there, falls of the book), one failure each."""
    here, there, puts = counts
    for at in range(here):
        for word in WORDS:
            yield (["good"] * at + [word], [], [])
    for at in range(there):
        for word in WORDS:
            yield ([], ["good"] * at + [word], [])
    for at in range(puts):
        yield ([], [], [at])


def double_failures(counts, more=2):
    """Two failures each; behind the first one there are some calls more."""
    here, there, puts = counts
    ones = list(single_failures((here + more, there + more, puts + more)))
    for first in ones:
        for second in ones:
            # Two of one line, or of the book, stand behind each other there.
            if not any(one and other for one, other in zip(first, second)):
                if first < second:
                    yield tuple(one + other for one, other in zip(first, second))
            else:
                yield tuple(one + other for one, other in zip(first, second))
