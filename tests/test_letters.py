import unittest

from values import beside, right_keys, wrong_keys
from worldbridge import letters
from worldbridge.errors import BadLetter, BadWorld


class Asked(unittest.TestCase):
    def test_truths_are_no_numbers(self):
        for value in (0, 1, -1, 10 ** 30):
            self.assertIs(letters.is_whole(value), True)
        for value in (True, False, None, "1", (1,)):
            self.assertIs(letters.is_whole(value), False)

    def test_limits_are_within(self):
        for asked, high in ((letters.is_world, 9), (letters.is_row, 5), (letters.is_body, 999)):
            for value in (0, 1, high - 1, high):
                self.assertIs(asked(value), True, (asked, value))
            for value in beside(0, high):
                self.assertIs(asked(value), False)

    def test_names_of_letters(self):
        for key in right_keys():
            self.assertIs(letters.is_key(key), True, key)
        for key in wrong_keys():
            self.assertIs(letters.is_key(key), False)


class Checked(unittest.TestCase):
    def test_worlds(self):
        for name in range(10):
            letters.check_world(name)
        for name in beside(0, 9):
            with self.assertRaises(BadWorld):
                letters.check_world(name)

    def test_rows(self):
        for row in range(6):
            letters.check_row(row)
        for row in beside(0, 5):
            with self.assertRaises(BadLetter):
                letters.check_row(row)

    def test_letters(self):
        for key in right_keys():
            for body in (0, 500, 999):
                letters.check_letter(5, key, body)
        for key in wrong_keys():
            with self.assertRaises(BadLetter):
                letters.check_letter(0, key, 0)
        for body in beside(0, 999):
            with self.assertRaises(BadLetter):
                letters.check_letter(0, (0, 0, 0), body)
        for row in beside(0, 5):
            with self.assertRaises(BadLetter):
                letters.check_letter(row, (0, 0, 0), 0)

    def test_what_is_handed_in_first_is_refused_first(self):
        with self.assertRaisesRegex(BadLetter, "row or box"):
            letters.check_letter(6, None, None)
        with self.assertRaisesRegex(BadLetter, "name"):
            letters.check_letter(5, None, None)
        with self.assertRaisesRegex(BadLetter, "body"):
            letters.check_letter(5, (0, 0, 0), None)


if __name__ == "__main__":
    unittest.main()
