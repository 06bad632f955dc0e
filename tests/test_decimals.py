"""Integers in decimal notation, as the texts of point [14] have them."""

import unittest

from everydecider.decimals import integer_text, read_integer


class Decimals(unittest.TestCase):

    def test_there_and_back(self):
        for size in (0, 1, 9, 10, 100, 10 ** 29, 10 ** 60 - 1, 10 ** 60, 10 ** 60 + 1, 10 ** 120, 7 * 10 ** 181 + 5):
            for number in (size, -size):
                self.assertEqual(integer_text(number), str(number))
                self.assertEqual(read_integer(str(number)), number)

    def test_no_integer(self):
        for word in ("", "-", "-0", "00", "01", "-01", "+1", "--1", "1-", " 1", "1 ", "1\n", "\n1", "1_0", "1.0", "a"):
            self.assertIsNone(read_integer(word), word)


if __name__ == "__main__":
    unittest.main()
