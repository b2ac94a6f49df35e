import unittest

from letteredsums.polynomials import slope
from tests.helping import answered, codes

A, B, X, Y, Z = 0, 1, 23, 24, 25

SLOPES = [
    (X, "3/2*x^2*y - x + 1", "3*x*y - 1"),
    (Y, "3/2*x^2*y - x + 1", "3/2*x^2"),
    (X, "x", "1"),
    (X, "-x", "-1"),
    (X, "x^2", "2*x"),
    (X, "-x^8", "-8*x^7"),
    (A, "a*b*c", "b*c"),
    (B, "a*b*c", "a*c"),
    (Z, "a*m*z^3", "3*a*m*z^2"),
    (Y, "x^2*y^3*z + x*y^2 - y*z + z^2", "3*x^2*y^2*z + 2*x*y - z"),
    (X, "x^2*y^3*z + x*y^2 - y*z + z^2", "2*x*y^3*z + y^2"),
    (Z, "x^2*y^3*z + x*y^2 - y*z + z^2", "x^2*y^3 - y + 2*z"),
]

NOT_THERE = [(Z, "3/2*x^2*y - x + 1"), (A, "x"), (X, "w^8 + y"), (A, "b*c*d"), (Z, "a*b - 1/2"), (B, "a*c")]

NUMBERS = ["0", "1", "-1", "7", "-7/3", "999999999999", "1/999999999999"]

DIFFERENT_POWERS = [
    (X, "x^5 + x^4 + x^3 + x^2 + x + 1", "5*x^4 + 4*x^3 + 3*x^2 + 2*x + 1"),
    (X, "x^8 - x^5 + 7", "8*x^7 - 5*x^4"),
    (Y, "x^3 + x^2*y + x*y^2 + y^3", "x^2 + 2*x*y + 3*y^2"),
    (X, "x^3 + x^2*y + x*y^2 + y^3", "3*x^2 + 2*x*y + y^2"),
    (X, "x^3*y - x*y + y", "3*x^2*y - y"),
    (X, "x^2 + x*y + x + y", "2*x + y + 1"),
]

FRACTIONS = [
    (X, "1/2*x^2", "x"),
    (X, "-1/2*x^2", "-x"),
    (X, "1/3*x^3 + 1/2*x^2 + x", "x^2 + x + 1"),
    (X, "5/6*x^3", "5/2*x^2"),
    (X, "1/6*x^2", "1/3*x"),
    (X, "1/6*x^4", "2/3*x^3"),
    (X, "1/7*x^3*y", "3/7*x^2*y"),
    (Y, "1/7*x^3*y", "1/7*x^3"),
    (X, "3*x^2 + 4*x", "6*x + 4"),
    (Y, "1/8*y^8 - 3*y", "y^7 - 3"),
    (X, "1/2*x^2 + 1/3*x*y", "x + 1/3*y"),
    (X, "2/3*x^3 + 1/999999999999*x", "2*x^2 + 1/999999999999"),
]

ORDER = [
    (A, "a^2*z + a*b^2 + a*b*z + z^3", "2*a*z + b^2 + b*z"),
    (B, "a^2*b + a*b^2 + b^3 + a*b + b^2 + a", "a^2 + 2*a*b + 3*b^2 + a + 2*b"),
    (Z, "a*z^2 + b*z^2 + z^3 + a*z + z", "2*a*z + 2*b*z + 3*z^2 + a + 1"),
    (Z, "z^4 + a*z^2 + a^2", "4*z^3 + 2*a*z"),
]


class Slope(unittest.TestCase):
    def hold(self, cases):
        for letter, p, result in cases:
            with self.subTest(letter=letter, p=p):
                self.assertEqual(slope(letter, codes(p)), answered(result))

    def test_ordinary(self):
        self.hold(SLOPES)

    def test_by_a_letter_that_is_not_there(self):
        self.hold([(letter, p, "0") for letter, p in NOT_THERE])

    def test_of_numbers(self):
        self.hold([(letter, p, "0") for p in NUMBERS for letter in (A, X, Z)])

    def test_different_powers(self):
        self.hold(DIFFERENT_POWERS)

    def test_fractions(self):
        self.hold(FRACTIONS)

    def test_the_order_of_the_products(self):
        self.hold(ORDER)

    def test_numbers_longer_than_may_be_handed_over(self):
        self.hold([(X, "999999999999*x^8", "7999999999992*x^7"),
                   (X, "-999999999999/100000000000*x^3", "-2999999999997/100000000000*x^2")])

    def test_each_letter(self):
        for letter, sign in enumerate("abcdefghijklmnopqrstuvwxyz"):
            self.assertEqual(slope(letter, codes(sign + "^3 + 1")), answered("3*" + sign + "^2"))

    def test_the_letters_number(self):
        for letter in (26, 27, 255, 256, 4294967295):
            with self.subTest(letter=letter):
                self.assertEqual(slope(letter, codes("x")), [-4])

    def test_the_letter_is_not_counted_with_those_of_p(self):
        self.assertEqual(slope(A, codes("x*y*z")), answered("0"))

    def test_the_refusal_told_first(self):
        for p in ("x", "", "x + x", "x^9", "w*x*y*z", "1000000000000"):
            for letter in (26, 4294967295):
                with self.subTest(letter=letter, p=p):
                    self.assertEqual(slope(letter, codes(p)), [-4])
        for p in ("", "x + x", "x^9 + 1*y", "1000000000000 + x"):
            self.assertEqual(slope(X, codes(p)), [-1], p)
        for p in ("x^9", "w*x*y*z", "1000000000000", "1/1000000000000*x", "y^9"):
            self.assertEqual(slope(X, codes(p)), [-2], p)


if __name__ == "__main__":
    unittest.main()
