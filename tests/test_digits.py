"""Numbers of any length, beyond those that Python's own texts of numbers allow."""

import unittest

from letteredsums.reading import whole_of
from letteredsums.writing import digits_of


class Digits(unittest.TestCase):
    def test_short_numbers(self):
        for whole in (0, 1, 9, 10, 10 ** 17, 10 ** 18 - 1, 10 ** 18, 10 ** 18 + 1, 10 ** 36 - 1, 10 ** 54 + 7):
            self.assertEqual(digits_of(whole), str(whole))
            self.assertEqual(whole_of(str(whole)), whole)

    def test_long_numbers(self):
        self.assertEqual(digits_of(10 ** 5000), "1" + "0" * 5000)
        self.assertEqual(digits_of(10 ** 5000 - 1), "9" * 5000)
        self.assertEqual(whole_of("1" + "0" * 5000), 10 ** 5000)


if __name__ == "__main__":
    unittest.main()
