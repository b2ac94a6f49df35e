"""Many inputs, the same ones each time, against the tests' second way to reckon."""

import random
import unittest

from letteredsums.polynomials import over, power, product, put, slope, sum_of
from tests.helping import (LETTERS, codes, expected_over, expected_power, expected_product, expected_put,
                           expected_slope, expected_sum, first_refusal, random_polynomial, times, write)

SIGNS = " +-*/^0123456789abxyz"


def changed(chance, text):
    """The text with a byte or two put in, taken out or made another."""
    signs = list(text)
    for step in range(chance.randint(1, 2)):
        place = chance.randint(0, len(signs))
        signs[place:place + chance.randint(0, 1)] = chance.choice([[], [chance.choice(SIGNS)]])
    return "".join(signs)


class SecondWay(unittest.TestCase):
    def setUp(self):
        self.chance = random.Random(20)

    def some_text(self, letters, highest):
        return write(random_polynomial(self.chance, letters, highest, self.chance.choice([2, 5, 12]), 12))

    def some_letters(self):
        return "".join(sorted(self.chance.sample(LETTERS, self.chance.randint(1, 3))))

    def test_sums_and_products(self):
        for step in range(300):
            letters = self.some_letters()
            p = self.some_text(letters, self.chance.randint(0, 8))
            q = self.some_text(letters, self.chance.randint(0, 8))
            with self.subTest(p=p, q=q):
                self.assertEqual(sum_of(codes(p), codes(q)), expected_sum(p, q))
                self.assertEqual(product(codes(p), codes(q)), expected_product(p, q))

    def test_powers(self):
        for step in range(150):
            highest = self.chance.randint(0, 4)
            p = self.some_text(self.some_letters(), highest)
            n = self.chance.randint(0, 13 if highest < 2 else 13 // highest)
            with self.subTest(n=n, p=p):
                self.assertEqual(power(n, codes(p)), expected_power(n, p))

    def test_puts(self):
        for step in range(200):
            letters = self.some_letters()
            outer = self.chance.randint(0, 8)
            p = self.some_text(letters, outer)
            q = self.some_text(letters, self.chance.randint(0, min(8, 13 // max(outer, 1))))
            letter = LETTERS.index(self.chance.choice(letters + "x"))
            with self.subTest(letter=letter, p=p, q=q):
                self.assertEqual(put(letter, codes(p), codes(q)), expected_put(letter, p, q))

    def test_slopes(self):
        for step in range(300):
            letters = self.some_letters()
            p = self.some_text(letters, self.chance.randint(0, 8))
            letter = LETTERS.index(self.chance.choice(letters + "x"))
            with self.subTest(letter=letter, p=p):
                self.assertEqual(slope(letter, codes(p)), expected_slope(letter, p))

    def product_of_two(self, highest, most, digits):
        """Two polynomials and their product, all of them small enough to be handed over."""
        while True:
            letters = self.some_letters()
            own = self.chance.randint(0, highest)
            first = random_polynomial(self.chance, letters, own, most, digits)
            second = random_polynomial(self.chance, letters, highest - own, most, digits)
            p, q, both = write(first), write(second), write(times(first, second))
            if q != "0" and len(both) <= 1400 and not first_refusal([p, both]) and not first_refusal([q, both]):
                return p, q, both

    def test_products_of_two_over_one_of_them(self):
        for step in range(400):
            p, q, both = self.product_of_two(self.chance.randint(0, 8), self.chance.choice([2, 4, 8]),
                                             self.chance.choice([1, 2, 5]))
            with self.subTest(p=p, q=q):
                answer = over(codes(both), codes(q))
                self.assertEqual(answer, [1, len(p)] + codes(p))
                self.assertEqual(product(answer[2:], codes(q)), [1, len(both)] + codes(both))

    def test_overs(self):
        for step in range(400):
            p, q, both = self.product_of_two(self.chance.randint(0, 8), self.chance.choice([1, 3, 6]), 4)
            near = bytes(sum_of(codes(both), codes(self.chance.choice(["1", "-1/2", q])))[2:]).decode()
            for top, below in ((p, q), (both, q), (near, q), (near, p), (q, both)):
                with self.subTest(top=top, below=below):
                    self.assertEqual(over(codes(top), codes(below)), expected_over(top, below))

    def test_texts_with_a_few_bytes_changed(self):
        for step in range(3000):
            p = changed(self.chance, write(random_polynomial(self.chance, "axy", 3, 4, 3)))
            with self.subTest(p=p):
                self.assertEqual(sum_of(codes(p), codes("x")), expected_sum(p, "x"))


if __name__ == "__main__":
    unittest.main()
