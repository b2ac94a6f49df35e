"""Many inputs, the same ones each time, against the tests' second way to reckon."""

import random
import unittest

from letteredsums.polynomials import power, product, put, sum_of
from tests.helping import (codes, expected_power, expected_product, expected_put, expected_sum, random_polynomial,
                           write)

LETTERS = "abcdefghijklmnopqrstuvwxyz"
SIGNS = " +-*/^0123456789abxyz"


def changed(chance, text):
    """The text with a byte or two put in, taken out or made another."""
    signs = list(text)
    for step in range(chance.randint(1, 2)):
        place = chance.randint(0, len(signs))
        signs[place:place + chance.randint(0, 1)] = chance.choice([[], [chance.choice(SIGNS)]])
    return "".join(signs)


class SecondWay(unittest.TestCase):
    def setUp(self):
        self.chance = random.Random(20)

    def some_text(self, letters, highest):
        return write(random_polynomial(self.chance, letters, highest, self.chance.choice([2, 5, 12]), 12))

    def some_letters(self):
        return "".join(sorted(self.chance.sample(LETTERS, self.chance.randint(1, 3))))

    def test_sums_and_products(self):
        for step in range(300):
            letters = self.some_letters()
            p = self.some_text(letters, self.chance.randint(0, 8))
            q = self.some_text(letters, self.chance.randint(0, 8))
            with self.subTest(p=p, q=q):
                self.assertEqual(sum_of(codes(p), codes(q)), expected_sum(p, q))
                self.assertEqual(product(codes(p), codes(q)), expected_product(p, q))

    def test_powers(self):
        for step in range(150):
            highest = self.chance.randint(0, 4)
            p = self.some_text(self.some_letters(), highest)
            n = self.chance.randint(0, 13 if highest < 2 else 13 // highest)
            with self.subTest(n=n, p=p):
                self.assertEqual(power(n, codes(p)), expected_power(n, p))

    def test_puts(self):
        for step in range(200):
            letters = self.some_letters()
            outer = self.chance.randint(0, 8)
            p = self.some_text(letters, outer)
            q = self.some_text(letters, self.chance.randint(0, min(8, 13 // max(outer, 1))))
            letter = LETTERS.index(self.chance.choice(letters + "x"))
            with self.subTest(letter=letter, p=p, q=q):
                self.assertEqual(put(letter, codes(p), codes(q)), expected_put(letter, p, q))

    def test_texts_with_a_few_bytes_changed(self):
        for step in range(3000):
            p = changed(self.chance, write(random_polynomial(self.chance, "axy", 3, 4, 3)))
            with self.subTest(p=p):
                self.assertEqual(sum_of(codes(p), codes("x")), expected_sum(p, "x"))


if __name__ == "__main__":
    unittest.main()
