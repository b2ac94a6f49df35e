import random
import time
import unittest
from fractions import Fraction

from letteredsums.polynomials import parts, power, product, sum_of
from tests.helping import (LETTERS, codes, expected_parts, height, laid_out, products_up_to, random_polynomial, read,
                           texts_in, write)

A, B, X, Y, Z = 0, 1, 23, 24, 25

# A letter, a text, its parts from power 0 on.
PARTS = [
    (X, "3/2*x^2*y - x + 1", ["1", "-1", "3/2*y"]),
    (Y, "3/2*x^2*y - x + 1", ["-x + 1", "3/2*x^2"]),
    (X, "x", ["0", "1"]),
    (X, "-x", ["0", "-1"]),
    (X, "x + 1", ["1", "1"]),
    (X, "x^2 + 2*x + 3", ["3", "2", "1"]),
    (X, "x*y + x*z + y - z", ["y - z", "y + z"]),
    (A, "a*b*c", ["0", "b*c"]),
    (B, "a*b*c", ["0", "a*c"]),
    (Z, "a*m*z + a + m + 7", ["a + m + 7", "a*m"]),
    (X, "x^2*y^3*z + x*y^2 - y*z + z^2", ["-y*z + z^2", "y^2", "y^3*z"]),
    (Y, "x^2*y^3*z + x*y^2 - y*z + z^2", ["z^2", "-z", "x", "x^2*z"]),
    (Z, "x^2*y^3*z + x*y^2 - y*z + z^2", ["x*y^2", "x^2*y^3 - y", "1"]),
]

NOT_THERE = ["3/2*a^2*y - y + 1", "b", "-b^8 + y", "b*c*d", "a*b - 1/2", "y^4*z^4", "a + b + c"]

NUMBERS = ["1", "-1", "7", "-7/3", "999999999999", "-1/999999999999"]

ZEROS_BETWEEN = [
    (X, "x^3", ["0", "0", "0", "1"]),
    (X, "x^3 + 1", ["1", "0", "0", "1"]),
    (X, "x^8 - x^5 + y", ["y", "0", "0", "0", "0", "-1", "0", "0", "1"]),
    (Y, "x*y^4 + x^2*y^2 + x", ["x", "0", "x^2", "0", "x"]),
    (Z, "a*z^3 - z", ["0", "-1", "0", "a"]),
    (A, "a^8", ["0"] * 8 + ["1"]),
]

FRACTIONS = [
    (X, "1/2*x^2 - 1/3*x + 1/5", ["1/5", "-1/3", "1/2"]),
    (X, "1/2*x*y + 1/3*x*z + 1/6*y + 1/4", ["1/6*y + 1/4", "1/2*y + 1/3*z"]),
    (Y, "-2/3*x^2*y - 4/9*x*y + 7/2*x", ["7/2*x", "-2/3*x^2 - 4/9*x"]),
    (Z, "999999999999/2*z - 1/999999999999", ["-1/999999999999", "999999999999/2"]),
    (X, "3*x*y + 1/2", ["1/2", "3*y"]),
]

ORDER = [
    (X, "x^2*z + x*y^2 + x*y*z + x*z^2 + y^3 + x*y + x*z + x + y", ["y^3 + y", "y^2 + y*z + z^2 + y + z + 1", "z"]),
    (A, "a*b^2 + a*z + b*z + a", ["b*z", "b^2 + z + 1"]),
    (Z, "a*z^2 + b*z^2 + z^3 + a*z + z", ["0", "a + 1", "a + b", "1"]),
]


class Parts(unittest.TestCase):
    def setUp(self):
        self.chance = random.Random(13)

    def hold(self, cases):
        for letter, p, found in cases:
            with self.subTest(letter=letter, p=p):
                self.assertEqual(parts(letter, codes(p)), laid_out(len(found), found))
                self.assertEqual(expected_parts(letter, p), laid_out(len(found), found))
                self.hold_as_promised(letter, p)

    def hold_as_promised(self, letter, p):
        """That there are as many as the height and 1, none with the letter, and that they add up to p."""
        answer = parts(letter, codes(p))
        texts = texts_in(answer)
        self.assertEqual(answer, laid_out(len(texts), texts))
        self.assertEqual(answer[0], height(LETTERS[letter], read(p)) + 1)
        whole = codes("0")
        for place, text in enumerate(texts):
            self.assertNotIn(LETTERS[letter], text)
            self.assertEqual(write(read(text)), text)
            moved = product(codes(text), power(place, codes(LETTERS[letter]))[2:])
            whole = sum_of(whole, moved[2:])[2:]
        self.assertEqual(whole, codes(p))
        if answer[0] > 1:
            self.assertNotEqual(texts[-1], "0")

    def test_ordinary(self):
        self.hold(PARTS)

    def test_the_layout(self):
        self.assertEqual(parts(X, codes("2*x^2 - y")), [3, 2, 45, 121, 1, 48, 1, 50])

    def test_by_a_letter_that_is_not_there(self):
        self.hold([(X, p, [p]) for p in NOT_THERE])
        self.hold([(letter, "m^2 - 1", ["m^2 - 1"]) for letter in range(26) if LETTERS[letter] != "m"])

    def test_0(self):
        for letter in range(26):
            self.assertEqual(parts(letter, codes("0")), [1, 1, 48])

    def test_numbers(self):
        self.hold([(letter, p, [p]) for p in NUMBERS for letter in (A, X, Z)])

    def test_zeros_between(self):
        self.hold(ZEROS_BETWEEN)

    def test_fractions(self):
        self.hold(FRACTIONS)

    def test_the_order_of_the_products(self):
        self.hold(ORDER)

    def test_each_letter(self):
        for letter, sign in enumerate(LETTERS):
            self.hold([(letter, sign + "^3 + 2", ["2", "0", "0", "1"])])

    def test_many_against_the_second_way(self):
        for step in range(300):
            letters = sorted(self.chance.sample(LETTERS, self.chance.randint(1, 3)))
            p = write(random_polynomial(self.chance, letters, self.chance.randint(0, 8), 12, 12))
            letter = LETTERS.index(self.chance.choice(letters + ["x"]))
            with self.subTest(letter=letter, p=p):
                self.assertEqual(parts(letter, codes(p)), expected_parts(letter, p))
                self.hold_as_promised(letter, p)

    def test_answers_come_within_seconds(self):
        many = {powers: Fraction(self.chance.randrange(10 ** 11, 10 ** 12), self.chance.randrange(10 ** 11, 10 ** 12))
                for powers in self.chance.sample(products_up_to(8, "xyz"), 30)}
        for letter in (X, Y, Z, A):
            start = time.process_time()
            answer = parts(letter, codes(write(many)))
            self.assertLess(time.process_time() - start, 5)
            self.assertEqual(answer, expected_parts(letter, write(many)))

    def test_the_letters_number(self):
        self.hold([(A, "a + 1", ["1", "1"]), (Z, "z + 1", ["1", "1"])])
        for letter in (26, 27, 255, 256, 4294967295):
            with self.subTest(letter=letter):
                self.assertEqual(parts(letter, codes("x")), [-4])
                self.assertEqual(parts(letter, codes("0")), [-4])

    def test_the_letter_is_not_counted_with_those_of_p(self):
        self.hold([(A, "x*y*z", ["x*y*z"])])

    def test_degree_8_and_9(self):
        self.hold([(X, "x^8", ["0"] * 8 + ["1"]), (X, "x*y^7", ["0", "y^7"]), (X, "y^8", ["y^8"]),
                   (Y, "x^3*y^3*z^2", ["0", "0", "0", "x^3*z^2"])])
        for large in ("x^9", "x*y^8", "y^9", "x^3*y^3*z^3", "x^9 + y"):
            with self.subTest(large=large):
                self.assertEqual(parts(X, codes(large)), [-2])

    def test_the_other_bounds(self):
        many = products_up_to(4, "xyz")
        few = write({powers: 1 for powers in many[:30]})
        self.assertEqual(parts(X, codes(few)), expected_parts(X, few))
        self.assertEqual(parts(X, codes(write({powers: 1 for powers in many[:31]}))), [-2])
        for small, large in (("999999999999*x", "1000000000000*x"), ("1/999999999999*x", "1/1000000000000*x"),
                             ("x*y*z", "w*x*y*z"), ("a + b + c", "a + b + c + x"),
                             ("-1/999999999999", "-1/1000000000000")):
            with self.subTest(small=small, large=large):
                self.assertGreater(parts(X, codes(small))[0], 0)
                self.assertEqual(parts(X, codes(large)), [-2])

    def test_the_refusal_told_first(self):
        wrong = ["", " ", "x + x", "1*x", "-0", "\xff", "x^9 + 1*y", "1000000000000 + x", "a*b*c*d + 0"]
        large = ["x^9", "w*x*y*z", "1000000000000", "1/1000000000000*x", "y^9"]
        for p in wrong + large + ["0", "x"]:
            for letter in (26, 4294967295):
                self.assertEqual(parts(letter, codes(p)), [-4], p)
        for p in wrong:
            self.assertEqual(parts(X, codes(p)), [-1], p)
        for p in large:
            self.assertEqual(parts(X, codes(p)), [-2], p)


if __name__ == "__main__":
    unittest.main()
