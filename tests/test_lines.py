import itertools
import unittest

from journeys import WORDS, letters_in
from values import A, B, C, D
from worldbridge.errors import BadLetter, BadPlace, BridgeError, Cut, Fallen
from worldbridge.lines import Book, Line
from worldbridge.worlds import Boxes, Rows

REFUSALS = {"good": None, "lost": Cut, "deaf": Cut, "fall": Fallen, "end": Fallen}
DONE = {"good": True, "lost": False, "deaf": True, "fall": False, "end": True}


def rows():
    world = Rows(3, False)
    world.write(0, A, 1)
    world.write(0, B, 2)
    return world


def boxes():
    world = Boxes(4, False, 2)
    world.put(0, A, 1)
    world.put(0, B, 2)
    world.take(0)
    return world


# (world, call, arguments, what a world tells): each call that a line has.
CALLS = [(rows, "write", (0, C, 3), 2), (rows, "read", (0, 0, 20), [(A, 1), (B, 2)]), (rows, "long", (0,), 2),
         (boxes, "put", (0, C, 3), None), (boxes, "take", (0,), (1, B, 2)), (boxes, "done", (0,), True)]
WRONG = [(rows, "write", (6, C, 3), BadLetter), (rows, "write", (0, 7, 3), BadLetter),
         (rows, "read", (-1, 0, 1), BadLetter), (rows, "read", (0, -1, 1), BadPlace),
         (rows, "read", (0, 0, 21), BadPlace), (rows, "long", (6,), BadLetter), (boxes, "put", (6, C, 3), BadLetter), (boxes, "put", (0, C, 1000), BadLetter),
         (boxes, "take", (True,), BadLetter)]


def state(world):
    told = [letters_in(world, row) for row in range(6)]
    return (told, world.taken.copy(), world.tickets) if isinstance(world, Boxes) else told


def told(line, call, args):
    """(what it told, what it was refused with)."""
    try:
        return (getattr(line, call)(*args), None)
    except BridgeError as error:
        return (None, error.__class__)


class Calls(unittest.TestCase):
    def test_each_word_at_each_call(self):
        for made, call, args, answer in CALLS:
            for word in REFUSALS:
                with self.subTest(call=call, word=word):
                    world, other = made(), made()
                    line = Line(world)
                    line.arm([word])
                    wanted = (answer, None) if word == "good" else (None, REFUSALS[word])
                    self.assertEqual(told(line, call, args), wanted)
                    if DONE[word]:
                        getattr(other, call)(*args)
                    self.assertEqual(state(world), state(other))
                    self.assertEqual(line.calls(), 1)

    def test_a_line_that_was_never_armed_is_good(self):
        for made, call, args, answer in CALLS:
            line = Line(made())
            self.assertEqual(told(line, call, args), (answer, None))

    def test_words_go_by_calls_and_all_behind_are_good(self):
        for words in itertools.product(REFUSALS, repeat=3):
            world = Rows(0, False)
            line = Line(world)
            line.arm(list(words))
            for number, word in enumerate(words + ("good", "good")):
                self.assertEqual(told(line, "write", (0, A, number))[1], REFUSALS[word])
            wanted = [number for number, word in enumerate(words + ("good", "good")) if DONE[word]]
            self.assertEqual([body for key, body in letters_in(world, 0)], wanted)
            self.assertEqual(line.calls(), 5)

    def test_words_go_over_unlike_calls(self):
        line = Line(boxes())
        line.arm(["good", "lost", "deaf", "end"])
        self.assertEqual([told(line, call, args) for call, args in (
            ("take", (0,)), ("done", (0,)), ("done", (0,)), ("put", (0, C, 3)), ("take", (0,)), ("take", (0,)))],
            [((1, B, 2), None), (None, Cut), (None, Cut), (None, Fallen), ((2, C, 3), None), (None, None)])
        self.assertEqual(line.calls(), 6)

    def test_an_empty_box_takes_its_word_too(self):
        for word in WORDS:
            line = Line(Boxes(1, True, 1))
            line.arm([word, "good"])
            self.assertEqual([told(line, "take", (0,)) for time in range(2)], [(None, REFUSALS[word]), (None, None)])

    def test_a_deaf_answer_that_nothing_is_there(self):
        line = Line(Boxes(1, True, 1))
        line.arm(["deaf", "end"])
        self.assertEqual([told(line, "done", (0,)) for time in range(3)], [(None, Cut), (None, Fallen), (False, None)])


class Refused(unittest.TestCase):
    def test_a_refusal_of_the_world_goes_through(self):
        for made, call, args, error in WRONG:
            world = made()
            before = state(world)
            line = Line(world)
            self.assertEqual(told(line, call, args), (None, error))
            self.assertEqual((state(world), line.calls()), (before, 1))

    def test_it_takes_its_word_too(self):
        for made, call, args, error in WRONG:
            for word in WORDS:
                with self.subTest(call=call, args=args, word=word):
                    world = made()
                    before = state(world)
                    line = Line(world)
                    line.arm([word, "lost", "good"])
                    self.assertIn(told(line, call, args)[1], (error, REFUSALS[word]))
                    self.assertEqual(state(world), before)
                    self.assertEqual((told(line, call, args)[1] in (Cut, error), line.calls()), (True, 2))
                    self.assertEqual((told(line, call, args)[1], line.calls()), (error, 3))


class Armed(unittest.TestCase):
    def test_again_in_the_middle(self):
        for later in ([], ["good"], ["good", "fall"], ["lost"]):
            line = Line(rows())
            line.arm(["good", "lost", "deaf", "fall", "end"])
            first = [told(line, "long", (0,))[1] for time in range(2)]
            line.arm(later)
            self.assertEqual(first, [None, Cut])
            wanted = [REFUSALS[word] for word in later] + [None] * 4
            self.assertEqual([told(line, "long", (0,))[1] for word in wanted], wanted)
            self.assertEqual(line.calls(), 2 + len(wanted))

    def test_arming_is_no_call_and_tells_none(self):
        line = Line(rows())
        self.assertIsNone(line.arm(["lost"]))
        self.assertEqual(line.calls(), 0)

    def test_a_copy_is_kept(self):
        line, words = Line(rows()), ["good", "lost"]
        line.arm(words)
        words[0] = "fall"
        words.append("fall")
        self.assertEqual([told(line, "long", (0,))[1] for time in range(3)], [None, Cut, None])
        self.assertEqual(words, ["fall", "lost", "fall"])

    def test_what_is_handed_in_is_not_used_up(self):
        line, words = Line(rows()), ["lost", "good"]
        line.arm(words)
        told(line, "long", (0,))
        self.assertEqual(words, ["lost", "good"])


class NameAndKind(unittest.TestCase):
    def test_as_of_its_world_and_never_failing(self):
        for knows in (True, False):
            for world in (Rows(6, knows), Boxes(7, knows, 1)):
                line = Line(world)
                line.arm(["fall"])
                self.assertEqual((line.name(), line.kind()), (world.name(), world.kind()))
                self.assertEqual(line.calls(), 0)
                self.assertEqual(told(line, "take" if line.name() == 7 else "long", (0,)), (None, Fallen))

    def test_methods_stand_in_the_class_itself(self):
        for method in ("write", "read", "long", "put", "take", "done", "name", "kind", "arm", "calls"):
            self.assertIn(method, vars(Line))
        for method in ("put", "arm", "get"):
            self.assertIn(method, vars(Book))

    def test_turn_and_left_are_no_calls_of_a_line(self):
        self.assertFalse(hasattr(Line(boxes()), "turn") or hasattr(Line(boxes()), "left"))

    def test_lines_to_one_world_share_nothing_else(self):
        world = rows()
        one, other = Line(world), Line(world)
        one.arm(["lost"])
        self.assertEqual(other.write(0, D, 4), 2)
        self.assertEqual((one.calls(), other.calls()), (0, 1))
        self.assertEqual(told(one, "long", (0,))[1], Cut)
        self.assertEqual(one.long(0), 3)


class Books(unittest.TestCase):
    def test_what_is_put_is_got(self):
        book = Book()
        for slot, worth in ((0, 5), (1, "text"), (-7, True), (10 ** 30, (1, (2, "x"))), (3, [1, [2]]), (4, {"a": [1]})):
            self.assertIsNone(book.get(slot))
            self.assertIsNone(book.put(slot, worth))
            self.assertEqual([book.get(slot), book.get(slot)], [worth, worth])
        self.assertEqual(book.get(0), 5)

    def test_a_later_put_takes_the_place_of_an_earlier_one(self):
        book = Book()
        for worth in (1, [2], None, 0):
            book.put(8, worth)
            self.assertEqual(book.get(8), worth)

    def test_books_share_nothing(self):
        one, other = Book(), Book()
        one.put(0, 1)
        one.arm(0)
        other.put(1, 2)
        self.assertEqual((one.get(1), other.get(0), other.get(1)), (None, None, 2))

    def test_copies_are_kept_and_told(self):
        book, worth = Book(), [1, [2, {"a": [3]}], ([4],)]
        book.put(0, worth)
        for answer in (worth, book.get(0), book.get(0)):
            self.assertEqual(book.get(0), [1, [2, {"a": [3]}], ([4],)])
            answer[1][1]["a"].append("spoilt")
            answer[1].append("spoilt")
            answer[2][0].clear()
            answer.clear()
        self.assertEqual(book.get(0), [1, [2, {"a": [3]}], ([4],)])

    def test_armed_with_0_and_more(self):
        for many in range(5):
            book = Book()
            book.put(0, "old")
            self.assertIsNone(book.arm(many))
            for number in range(8):
                if number == many:
                    with self.assertRaises(Fallen):
                        book.put(0, number)
                    self.assertEqual(book.get(0), many - 1 if many else "old")
                else:
                    book.put(0, number)
                    self.assertEqual(book.get(0), number)

    def test_a_put_that_is_refused_leaves_other_slots_too(self):
        book = Book()
        book.put(1, "old")
        book.arm(0)
        with self.assertRaises(Fallen):
            book.put(2, "new")
        self.assertEqual((book.get(1), book.get(2)), ("old", None))
        book.put(2, "new")
        self.assertEqual(book.get(2), "new")

    def test_armed_again(self):
        for first, later in itertools.product(range(3), repeat=2):
            book = Book()
            book.arm(first)
            book.arm(later)
            fallen = []
            for number in range(6):
                try:
                    book.put(0, number)
                except Fallen:
                    fallen.append(number)
            self.assertEqual(fallen, [later])

    def test_getting_counts_for_nothing(self):
        book = Book()
        book.arm(1)
        for time in range(5):
            book.get(0)
        book.put(0, 1)
        with self.assertRaises(Fallen):
            book.put(0, 2)


if __name__ == "__main__":
    unittest.main()
