import random
import unittest

from letteredsums.polynomials import degree
from tests.helping import LETTERS, codes, expected_degree, products_up_to, random_polynomial, write

NUMBERS = ["0", "1", "-1", "7", "-7/3", "999999999999", "-1/999999999999"]

DEGREES = [
    ("x", 1),
    ("-x", 1),
    ("2*x + 5", 1),
    ("x^2", 2),
    ("x*y", 2),
    ("x*y*z", 3),
    ("3/2*x^2*y - x + 1", 3),
    ("a^2*m^3*z", 6),
    ("x^8", 8),
    ("x^4*y^4", 8),
    ("x^3*y^3*z^2", 8),
    ("a + b + c", 1),
    ("-1/2*a*z - 1/3", 2),
]

# Others come near to the highest product, or have more of one letter than it has.
NEAR = [
    ("x^2*y^2 + x^3 + y^3", 4),
    ("x*y*z + x^2 + y^2 + z^2", 3),
    ("x^4*y^4 + x^7 - y^7", 8),
    ("a*b^2*c^2 + a^4 + b^4 + c^4", 5),
    ("x^5 + x*y^4 + x^4", 5),
    ("x*z^7 - x^7 + y^7", 8),
    ("z^3 + a^2 + a*z", 3),
]


class Degree(unittest.TestCase):
    def hold(self, cases):
        for p, number in cases:
            with self.subTest(p=p):
                self.assertEqual(degree(codes(p)), [number])
                self.assertEqual(expected_degree(p), [number])

    def test_numbers(self):
        self.hold([(p, 0) for p in NUMBERS])

    def test_ordinary(self):
        self.hold(DEGREES)

    def test_others_come_near(self):
        self.hold(NEAR)

    def test_each_letter(self):
        for letter in LETTERS:
            self.hold([(letter, 1), (letter + "^5 - 1", 5)])

    def test_each_product_alone(self):
        for powers in products_up_to(8, "bxz"):
            self.hold([(write({powers: 1}), sum(count for letter, count in powers))])

    def test_many_against_the_second_way(self):
        chance = random.Random(19)
        for step in range(300):
            letters = sorted(chance.sample(LETTERS, chance.randint(1, 3)))
            p = write(random_polynomial(chance, letters, chance.randint(0, 9), chance.choice([2, 12, 31]), 12))
            with self.subTest(p=p):
                self.assertEqual(degree(codes(p)), expected_degree(p))

    def test_degree_8_and_9(self):
        self.hold([("x^8", 8), ("x^3*y^3*z^2", 8), ("-x*y^7 + 1", 8)])
        for large in ("x^9", "x^3*y^3*z^3", "-x*y^8 + 1", "z^10", "x^4294967296", "z^" + "9" * 1000):
            with self.subTest(large=large[:40]):
                self.assertEqual(degree(codes(large)), [-2])

    def test_the_other_bounds(self):
        many = products_up_to(4, "xyz")
        self.hold([(write({powers: 1 for powers in many[:30]}), 4)])
        self.assertEqual(degree(codes(write({powers: 1 for powers in many[:31]}))), [-2])
        for small, large in (("999999999999*x", "1000000000000*x"), ("1/999999999999*x", "1/1000000000000*x"),
                             ("x + y + z", "w + x + y + z"), ("x - 999999999999", "x - 1000000000000"),
                             ("x + 1/999999999999", "x + 1/1000000000001")):
            self.hold([(small, 1)])
            self.assertEqual(degree(codes(large)), [-2], large)

    def test_wrong_texts(self):
        for text in ("", " ", "x + x", "1*x", "x^1", "00", "-0", "x+1", "y + x", "2/4", "X", "\xff", "0*x", "x^0"):
            with self.subTest(text=text):
                self.assertEqual(degree(codes(text)), [-1])

    def test_the_refusal_told_first(self):
        for text in ("x^9 + 1*y", "01000000000000", "a*b*c*d + 0", "2000000000000/4000000000000", "x + y^9"):
            with self.subTest(text=text):
                self.assertEqual(degree(codes(text)), [-1])


if __name__ == "__main__":
    unittest.main()
