import random
import time
import unittest
from fractions import Fraction
from math import gcd

from letteredsums.polynomials import plain, product
from tests.helping import (LETTERS, answered, codes, expected_plain, first_refusal, height_key, laid_out,
                           products_up_to, random_polynomial, read, texts_in, times, write)

# A text, the number out front, the plain form.
ORDINARY = [
    ("-3*x + 3/2", "-3/2", "2*x - 1"),
    ("2*x + 4", "2", "x + 2"),
    ("6*x^2 - 4*y", "2", "3*x^2 - 2*y"),
    ("1/2*x + 1/3", "1/6", "3*x + 2"),
    ("4/3*x + 2/9", "2/9", "6*x + 1"),
    ("2/3*x + 4/5*y", "2/15", "5*x + 6*y"),
    ("x + 1/2", "1/2", "2*x + 1"),
    ("x - 1/999999999999", "1/999999999999", "999999999999*x - 1"),
    ("3/2*x^2*y - x + 1", "1/2", "3*x^2*y - 2*x + 2"),
]

PLAIN_ALREADY = ["1", "x", "x + 1", "2*x - 1", "x^8 - y^8", "3*x^2*y - 2*x + 2", "6*x + 10*y + 15*z", "a*b*c",
                 "999999999999*x - 999999999998", "x^3 - 7*x - 7", "4*x^2 - 9"]

NUMBERS = ["1", "-1", "7", "-7", "1/2", "-1/2", "-7/3", "999999999999", "-999999999999", "1/999999999999",
           "999999999998/999999999999"]

ONE_PRODUCT = [
    ("x", "1", "x"),
    ("-x", "-1", "x"),
    ("7*x^8", "7", "x^8"),
    ("-7/3*x^2*y", "-7/3", "x^2*y"),
    ("1/999999999999*a*m*z", "1/999999999999", "a*m*z"),
]

MANY_PRODUCTS = [
    ("1/2*x^2 + 1/3*x*y + 1/5*y^2 + 1/7", "1/210", "105*x^2 + 70*x*y + 42*y^2 + 30"),
    ("6/5*x^3 - 9/10*x^2 + 12/25*x - 15/2", "3/50", "20*x^3 - 15*x^2 + 8*x - 125"),
    ("14/3*x*y - 21/4*x*z + 35/6*y*z", "7/12", "8*x*y - 9*x*z + 10*y*z"),
    ("4*x + 6/7*y + 8/3", "2/21", "42*x + 9*y + 28"),
    ("10*a^2 + 15*a*b - 25*b^2 + 35*c - 40", "5", "2*a^2 + 3*a*b - 5*b^2 + 7*c - 8"),
    ("1/4*x + 1/6*y + 1/9*z", "1/36", "9*x + 6*y + 4*z"),
]

BELOW_0 = [
    ("-x + 1", "-1", "x - 1"),
    ("-x - 1", "-1", "x + 1"),
    ("-2*x^2 + 4*x", "-2", "x^2 - 2*x"),
    ("-1/2*x + 1/3*y - 1/4", "-1/12", "6*x - 4*y + 3"),
    ("-x^2 + 100*x", "-1", "x^2 - 100*x"),
    # The first number is the highest product's: of x*y^2 and x^2*y that of the second one.
    ("-x^2*y + x*y^2", "-1", "x^2*y - x*y^2"),
    ("x^2*y - x*y^2", "1", "x^2*y - x*y^2"),
    ("-z^2 + a", "-1", "z^2 - a"),
]

LONG = [
    ("999999999999*x + 1/999999999998", "1/999999999998", "999999999997000000000002*x + 1"),
    ("1/999999999999*x - 1/999999999998", "1/999999999997000000000002", "999999999998*x - 999999999999"),
    ("-1/999999999999*x + 1/999999999998*y - 1/999999999997", "-1/999999999994000000000010999999999994",
     "999999999995000000000006*x - 999999999996000000000003*y + 999999999997000000000002"),
]


class Plain(unittest.TestCase):
    def setUp(self):
        self.chance = random.Random(17)

    def hold(self, cases):
        for p, front, form in cases:
            with self.subTest(p=p):
                self.assertEqual(plain(codes(p)), laid_out(2, [front, form]))
                self.assertEqual(expected_plain(p), laid_out(2, [front, form]))
                self.hold_as_promised(p)

    def hold_as_promised(self, p):
        """That the plain form is one, and that it times the number out front is p."""
        answer = plain(codes(p))
        front, form = texts_in(answer)
        self.assertEqual(answer, laid_out(2, [front, form]))
        numbers = read(form)
        self.assertTrue(all(number.denominator == 1 for number in numbers.values()))
        self.assertEqual(gcd(*[number.numerator for number in numbers.values()]), 1)
        self.assertGreater(numbers[max(numbers, key=height_key)], 0)
        self.assertEqual(list(read(front)), [()])
        self.assertEqual(write(times(read(front), numbers)), p)
        # The answer itself may be too large to be handed over.
        if first_refusal([front, form]) == 0:
            self.assertEqual(product(codes(front), codes(form)), answered(p))
            self.assertEqual(plain(codes(form)), laid_out(2, ["1", form]))

    def test_ordinary(self):
        self.hold(ORDINARY)

    def test_the_layout(self):
        self.assertEqual(plain(codes("-3*x + 3/2")),
                         [2, 4, 45, 51, 47, 50, 7, 50, 42, 120, 32, 45, 32, 49])

    def test_plain_already(self):
        self.hold([(p, "1", p) for p in PLAIN_ALREADY])

    def test_numbers(self):
        self.hold([(p, p, "1") for p in NUMBERS])

    def test_one_product(self):
        self.hold(ONE_PRODUCT)

    def test_many_products(self):
        self.hold(MANY_PRODUCTS)

    def test_a_first_number_below_0(self):
        self.hold(BELOW_0)

    def test_numbers_longer_than_12_digits_in_the_answer(self):
        self.hold(LONG)

    def test_many_against_the_second_way(self):
        for step in range(400):
            letters = sorted(self.chance.sample(LETTERS, self.chance.randint(1, 3)))
            digits = self.chance.choice([1, 3, 12])
            found = random_polynomial(self.chance, letters, self.chance.randint(0, 8), 12, digits)
            factor = {(): Fraction(self.chance.choice([-12, -5, -1, 1, 2, 9]), self.chance.randint(1, 12))}
            for p in (write(found), write(times(found, factor))):
                with self.subTest(p=p):
                    self.assertEqual(plain(codes(p)), expected_plain(p))
                    if p != "0" and first_refusal([p]) == 0:
                        self.hold_as_promised(p)

    def test_the_largest(self):
        many = {powers: Fraction(self.chance.randrange(10 ** 11, 10 ** 12), self.chance.randrange(10 ** 11, 10 ** 12))
                for powers in self.chance.sample(products_up_to(8, "xyz"), 30)}
        start = time.process_time()
        answer = plain(codes(write(many)))
        self.assertLess(time.process_time() - start, 5)
        self.assertEqual(answer, expected_plain(write(many)))
        self.hold_as_promised(write(many))

    def test_p_0(self):
        self.assertEqual(plain(codes("0")), [-3])

    def test_degree_8_and_9(self):
        self.hold([("x^8", "1", "x^8"), ("2*x^3*y^3*z^2", "2", "x^3*y^3*z^2"), ("-x*y^7 + 1", "-1", "x*y^7 - 1")])
        for large in ("x^9", "2*x^3*y^3*z^3", "-x*y^8 + 1", "z^10"):
            with self.subTest(large=large):
                self.assertEqual(plain(codes(large)), [-2])

    def test_the_other_bounds(self):
        many = products_up_to(4, "xyz")
        few = write({powers: 2 for powers in many[:30]})
        self.hold([(few, "2", few.replace("2*", "", 1).replace(" 2*", " "))])
        self.assertEqual(plain(codes(write({powers: 2 for powers in many[:31]}))), [-2])
        for small, large in (("999999999999*x", "1000000000000*x"), ("1/999999999999*x", "1/1000000000000*x"),
                             ("x*y*z", "w*x*y*z"), ("a + b + c", "a + b + c + d"), ("-999999999999", "-1000000000000"),
                             ("x + 1/999999999999", "x + 1/1000000000001")):
            with self.subTest(small=small, large=large):
                self.assertEqual(plain(codes(small))[0], 2)
                self.assertEqual(plain(codes(large)), [-2])

    def test_wrong_texts(self):
        for text in ("", " ", "x + x", "1*x", "x^1", "00", "-0", "x+1", "y + x", "2/4", "X", "\xff", "0*x"):
            with self.subTest(text=text):
                self.assertEqual(plain(codes(text)), [-1])

    def test_the_refusal_told_first(self):
        for text in ("x^9 + 1*y", "01000000000000", "a*b*c*d + 0", "2000000000000/4000000000000", "x + y^9"):
            with self.subTest(text=text):
                self.assertEqual(plain(codes(text)), [-1])


if __name__ == "__main__":
    unittest.main()
