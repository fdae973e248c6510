import itertools
import unittest

from worldbridge import notes
from worldbridge.errors import BadText, BadWays
from worldbridge.notes import read, written

ALL = [(word, start, goal) for word in ("over", "back") for start in range(6) for goal in range(6)]
EIGHT = ALL[::9]
# No ways by themselves.
WRONG = ["", "over", "over 0 0", "abc", 0, 7, True, None, (), ("over",), ("over", 0), ("over", 0, 0, 0), (0, 0, 0),
         (0, "over", 0), ("Over", 0, 0), ("over ", 0, 0), ("", 0, 0), ("forth", 0, 0), (True, 0, 0), (None, 0, 0),
         ("over", -1, 0), ("over", 6, 0), ("back", 0, 6), ("back", 0, -1), ("over", True, 0), ("back", 0, False),
         ("over", "0", 0), ("over", 0, "0"), ("over", None, 0), ("over", (0,), 0), (("over", 0, 0),),
         (("over",), 0, 0), ("over", 10 ** 5000, 0)]


class Written(unittest.TestCase):
    def test_texts(self):
        for ways, text in (([], ""), ([("over", 0, 3)], "over 0 3"), ([("back", 5, 0)], "back 5 0"),
                           ([("over", 1, 2), ("back", 2, 1)], "over 1 2\nback 2 1"),
                           ([("over", 0, 0)] * 3, "over 0 0\nover 0 0\nover 0 0")):
            self.assertEqual(written(ways), text)
            self.assertEqual(read(text), ways)

    def test_what_is_written_is_read_to_the_same(self):
        self.assertEqual(len(EIGHT), 8)
        for ways in [[way] for way in ALL] + [EIGHT[:many] for many in range(9)] + [EIGHT[::-1], ALL]:
            before = list(ways)
            self.assertEqual(read(written(ways)), ways)
            self.assertEqual(ways, before)
        for ways in itertools.product(ALL[::5], repeat=2):
            self.assertEqual(read(written(list(ways))), list(ways))

    def test_ways_that_no_bridge_has_together(self):
        for ways in ([("over", 0, 0), ("over", 0, 0)], [("over", 0, 1), ("over", 0, 2)], [("over", 0, 0)] * 8):
            self.assertEqual(read(written(ways)), ways)

    def test_told_lists_are_new(self):
        text = written(EIGHT)
        read(text).clear()
        self.assertEqual(read(text), EIGHT)
        self.assertTrue(all(isinstance(way, tuple) for way in read(text)))

    def test_wrong_ways(self):
        for way in WRONG:
            for ways in ([way], [("over", 0, 0), way], [way, ("back", 1, 1)], EIGHT[:7] + [way], [way, way]):
                with self.assertRaises(BadWays):
                    written(ways)

    def test_no_lists(self):
        for ways in ("over 0 0", 0, True, None, (), (("over", 0, 0),), ("over", 0, 0)):
            with self.assertRaises(BadWays):
                written(ways)


class Read(unittest.TestCase):
    def refused(self, text, row):
        with self.assertRaises(BadText) as caught:
            read(text)
        self.assertEqual(caught.exception.row, row, repr(text))

    def spoilt(self, text):
        """(text, its first wrong row) for each sign left out, put in or put otherwise."""
        signs = [chr(sign) for sign in range(32, 127) if chr(sign) != "%"] + ["\n"]
        for at in range(len(text) + 1):
            for sign in signs:
                yield text[:at] + sign + text[at:]
                yield text[:at] + sign + text[at + 1:]
            yield text[:at] + text[at + 1:]

    def test_each_sign_otherwise(self):
        """Right are just the texts that are written; the row is that of the first one that isn't."""
        rows = {written([way]) for way in ALL}
        for ways in ([("over", 0, 3)], [("back", 5, 1), ("over", 2, 2)], EIGHT):
            for text in self.spoilt(written(ways)):
                wrong = [at for at, row in enumerate(text.split("\n")) if row not in rows]
                if wrong and text:
                    self.refused(text, wrong[0])
                else:
                    self.assertEqual(written(read(text)), text)

    def test_the_first_wrong_row_is_told(self):
        for many in range(1, 9):
            rows = written(EIGHT[:many]).split("\n")
            for at in range(many):
                for wrong in ("", " ", "over", "over 0", "over 0 0 0", "over 0 6", "x"):
                    spoilt = rows[:at] + [wrong] + rows[at + 1:]
                    if spoilt != [""]:
                        self.refused("\n".join(spoilt), at)
                    self.refused("\n".join(spoilt + ["wrong"]), at)

    def test_each_word_left_out_put_in_or_put_otherwise(self):
        words = ["over", "0", "3"]
        others = ["over", "back", "0", "3", "6", "-1", "x", "", "OVER", "overt", "ove"]
        for text in ("{}", "back 1 1\n{}", "back 1 1\n{}\nover 1 1"):
            row = text.split("\n").index("{}")
            right = {"over 0 3", "back 0 3", "over 3 3", "over 0 0"}
            for at in range(4):
                tries = [words[:at] + [other] + words[at:] for other in others] + [words[:at] + words[at + 1:]]
                tries += [words[:at] + [other] + words[at + 1:] for other in others]
                for one in (" ".join(parts) for parts in tries):
                    if one in right:
                        self.assertEqual(written(read(text.format(one))), text.format(one))
                    else:
                        self.refused(text.format(one), row)

    def test_blanks_and_line_ends(self):
        for text, row in (("\n", 0), (" ", 0), ("\n\n", 0), ("over 0 3\n", 1), ("\nover 0 3", 0), (" over 0 3", 0),
                          ("over 0 3 ", 0), ("over  0 3", 0), ("over 0  3", 0), ("over 0 3\n\nover 1 1", 1),
                          ("over 0 3\n ", 1), ("over 0 3 \nover 1 1", 0), ("over 0 3\n over 1 1", 1), ("over\n0 3", 0),
                          ("over 0\n3", 0), ("over 0 3\nback 1 1\n\n", 2)):
            self.refused(text, row)

    def test_numbers_written_otherwise(self):
        for number in ("00", "03", "+3", "-0", "-3", "3.0", "3.", "0x3", "1_0", "0b1", "three", "6", "9", "10", "(3)",
                       "'3'", "True", "None", "3,", "1e0"):
            self.refused(f"over {number} 0", 0)
            self.refused(f"back 0 {number}", 0)
            self.refused(f"over 0 0\nback 0 {number}\nover", 1)

    def test_no_limit_of_rows_is_told(self):
        self.assertEqual(read("\n".join(["over 0 0"] * 12)), [("over", 0, 0)] * 12)

    def test_functions(self):
        self.assertEqual([callable(getattr(notes, name)) for name in ("written", "read")], [True, True])


if __name__ == "__main__":
    unittest.main()
