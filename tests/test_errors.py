import unittest

from worldbridge import errors

PLAIN = ["BadWorld", "BadLetter", "BadPlace", "BadWays", "Cut", "Fallen"]


class Classes(unittest.TestCase):
    def test_bridge_error_is_a_value_error(self):
        self.assertEqual(errors.BridgeError.__bases__, (ValueError,))

    def test_each_is_a_bridge_error_and_none_of_the_others(self):
        for name in PLAIN + ["BadText"]:
            with self.subTest(name):
                self.assertEqual(getattr(errors, name).__bases__, (errors.BridgeError,))

    def test_each_is_raised_with_words(self):
        for name in PLAIN:
            with self.subTest(name), self.assertRaisesRegex(errors.BridgeError, "why"):
                raise getattr(errors, name)("why")


class Text(unittest.TestCase):
    def test_bad_text_has_its_row(self):
        for row in (0, 1, 77):
            with self.assertRaises(errors.BadText) as caught:
                raise errors.BadText(row)
            self.assertEqual(caught.exception.row, row)

    def test_each_bad_text_has_its_own_row(self):
        first, second = errors.BadText(3), errors.BadText(4)
        self.assertEqual((first.row, second.row), (3, 4))


if __name__ == "__main__":
    unittest.main()
