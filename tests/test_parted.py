import itertools
import random
import time
import unittest
from fractions import Fraction
from functools import reduce

from letteredsums.polynomials import common, parted, power, product
from tests.helping import (LETTERS, codes, degree_of, expected_parted, first_refusal, in_common, laid_out, letters_in,
                           plain_form, products_up_to, quotient, random_polynomial, read, slope_by, texts_in, times,
                           to_power, write)

NUMBERS = ["1", "-1", "7", "-7", "1/2", "-1/2", "-7/3", "999999999999", "-1/999999999999",
           "999999999998/999999999999"]

# A text, the number out front, what goes in once, twice and so on.
NO_SQUARES = [
    ("x", "1", ["x"]),
    ("x + 1", "1", ["x + 1"]),
    ("x*y", "1", ["x*y"]),
    ("x*y*z", "1", ["x*y*z"]),
    ("x^2 - 1", "1", ["x^2 - 1"]),
    ("x^2 + 1", "1", ["x^2 + 1"]),
    ("x^2 + y", "1", ["x^2 + y"]),
    ("x^6 - 1", "1", ["x^6 - 1"]),
    ("x^6 - y^6", "1", ["x^6 - y^6"]),
    ("x^6 + y^5 + z^4", "1", ["x^6 + y^5 + z^4"]),
    ("x^2*y^2*z^2 + 1", "1", ["x^2*y^2*z^2 + 1"]),
    ("x^2*y - y", "1", ["x^2*y - y"]),
    ("a*b - b*z", "1", ["a*b - b*z"]),
]

SQUARES = [
    ("x^2 + 2*x + 1", "1", ["1", "x + 1"]),
    ("x^2 + 2*x*y + y^2", "1", ["1", "x + y"]),
    ("x^2*y^2 - 2*x*y + 1", "1", ["1", "x*y - 1"]),
    ("4*x^2 - 12*x*y + 9*y^2", "1", ["1", "2*x - 3*y"]),
    ("x^6 - 2*x^3 + 1", "1", ["1", "x^3 - 1"]),
    ("x^2 + 2*x*y + 2*x*z + y^2 + 2*y*z + z^2", "1", ["1", "x + y + z"]),
    ("x^3 - 3*x^2 + 3*x - 1", "1", ["1", "1", "x - 1"]),
    ("x^6 + 3*x^4*y + 3*x^2*y^2 + y^3", "1", ["1", "1", "x^2 + y"]),
    ("x^3*y^3 + 3*x^2*y^2*z + 3*x*y*z^2 + z^3", "1", ["1", "1", "x*y + z"]),
    ("x^6 - 6*x^5 + 15*x^4 - 20*x^3 + 15*x^2 - 6*x + 1", "1", ["1"] * 5 + ["x - 1"]),
    ("x^6 + 6*x^5*y + 15*x^4*y^2 + 20*x^3*y^3 + 15*x^2*y^4 + 6*x*y^5 + y^6", "1", ["1"] * 5 + ["x + y"]),
]

SINGLE_LETTERS = [
    ("x*y^2*z^3", "1", ["x", "y", "z"]),
    ("x^3*y^2*z", "1", ["z", "y", "x"]),
    ("x^2*y", "1", ["y", "x"]),
    ("x^2*y^2", "1", ["1", "x*y"]),
    ("x^2*y^2*z^2", "1", ["1", "x*y*z"]),
    ("-2/3*a^2*b^4", "-2/3", ["1", "a", "1", "b"]),
    ("a^5*z", "1", ["z", "1", "1", "1", "a"]),
    ("7*m^3*n^3", "7", ["1", "1", "m*n"]),
    ("-x*z^5", "-1", ["x", "1", "1", "1", "z"]),
]

LETTERS_AND_SUMS = [
    ("x^3 + x^2", "1", ["x + 1", "x"]),
    ("x^3 + 2*x^2 + x", "1", ["x", "x + 1"]),
    ("x^2*y + x*y", "1", ["x^2*y + x*y"]),
    ("x^4*y^2 + x^3*y^2", "1", ["x + 1", "y", "x"]),
    ("x^4 + 2*x^3*y + x^2*y^2", "1", ["1", "x^2 + x*y"]),
    ("x^3*z^2 - 2*x^2*y*z^2 + x*y^2*z^2", "1", ["x", "x*z - y*z"]),
    ("a^3*b - 3*a^2*b^2 + 3*a*b^3 - b^4", "1", ["b", "1", "a - b"]),
]

ONE_LETTER_ALONE = [
    ("x*y^2 - 2*x*y + x", "1", ["x", "y - 1"]),
    ("x^2*y^2 - x^2 + y^2 - 1", "1", ["x^2*y^2 - x^2 + y^2 - 1"]),
    ("x^2*y - 2*x*y + y", "1", ["y", "x - 1"]),
    ("x^3 + x^2*y - 2*x^2 - 2*x*y + x + y", "1", ["x + y", "x - 1"]),
    ("x*z^2 + y*z^2 + 2*x*z + 2*y*z + x + y", "1", ["x + y", "z + 1"]),
    ("a^2*z^3 - z^3", "1", ["a^2 - 1", "1", "z"]),
    ("x^2*z - 2*x*y*z + y^2*z", "1", ["z", "x - y"]),
]

LEFT_OUT = [
    ("x^4 - x^3", "1", ["x - 1", "1", "x"]),
    ("x^6 - x^5", "1", ["x - 1", "1", "1", "1", "x"]),
    ("x^4*y + x^3*y^2", "1", ["x*y + y^2", "1", "x"]),
    ("x^4*y^2", "1", ["1", "y", "1", "x"]),
    ("x^4 + 4*x^3 + 6*x^2 + 4*x + 1", "1", ["1", "1", "1", "x + 1"]),
    ("a*b^3 + b^3*z", "1", ["a + z", "1", "b"]),
]

NUMBERS_OUT_FRONT = [
    ("-3*x + 3/2", "-3/2", ["2*x - 1"]),
    ("-x", "-1", ["x"]),
    ("-x^2", "-1", ["1", "x"]),
    ("2*x^2 + 4*x + 2", "2", ["1", "x + 1"]),
    ("-x^2 + 2*x - 1", "-1", ["1", "x - 1"]),
    ("x^2 + x + 1/4", "1/4", ["1", "2*x + 1"]),
    ("-1/4*x^2 + 1/3*x*y - 1/9*y^2", "-1/36", ["1", "3*x - 2*y"]),
    ("-x^3 + 3*x^2 - 3*x + 1", "-1", ["1", "1", "x - 1"]),
    ("1/2*x^3 + 1/3*x^2", "1/6", ["3*x + 2", "x"]),
    ("-6/5*x*y^2 + 12/5*x*y - 6/5*x", "-6/5", ["x", "y - 1"]),
    ("8*x^3 - 12*x^2 + 6*x - 1", "1", ["1", "1", "2*x - 1"]),
    ("-8*x^3 + 12*x^2 - 6*x + 1", "-1", ["1", "1", "2*x - 1"]),
    ("999999999999*x^2", "999999999999", ["1", "x"]),
    ("-1/999999999999*x^2*y", "-1/999999999999", ["y", "x"]),
    ("1/2*x^2 + 1/3*y^2 + 1/5", "1/30", ["15*x^2 + 10*y^2 + 6"]),
    ("999999999999*x^2 - 1/999999999999*y", "1/999999999999", ["999999999998000000000001*x^2 - y"]),
]

# Into none of these goes anything but itself and numbers.
INSEPARABLE = {
    1: ["x", "x - 1", "2*x + 3", "x + 1/2", "x^2 + 1", "x^2 - 2", "x^3 - 2"],
    2: ["x", "y", "x + y", "2*x - 3*y", "x*y - 1", "x^2 + y", "y^2 - x + 1", "x^2 + y^2", "y + 5"],
    3: ["x", "z", "x + y + z", "x*y + z", "x - 2*z", "x*y*z - 1", "x*z - y^2", "y - 1/3", "x^2 + y^2 + z^2"],
}


def product_of(texts):
    return write(reduce(times, [read(text) for text in texts], read("1")))


def by_product(p, q):
    """The product as the program tells it, or by the second way where one is too large to be handed over."""
    if first_refusal([p, q]):
        return product_of([p, q])
    return texts_in(product(codes(p), codes(q)))[0]


def by_power(n, p):
    if first_refusal([p]):
        return write(to_power(read(p), n))
    return texts_in(power(n, codes(p)))[0]


def by_common(p, q):
    if first_refusal([p, q], 5):
        return write(in_common(read(p), read(q)))
    return texts_in(common(codes(p), codes(q)))[0]


class Parted(unittest.TestCase):
    def setUp(self):
        self.chance = random.Random(11)

    def hold(self, cases):
        for p, front, found in cases:
            with self.subTest(p=p):
                self.assertEqual(parted(codes(p)), laid_out(len(found), [front] + found))
                self.assertEqual(expected_parted(p), laid_out(len(found), [front] + found))
                self.hold_as_promised(p)

    def hold_as_promised(self, p):
        """What the document says of the answer, whatever the way it was found."""
        answer = parted(codes(p))
        texts = texts_in(answer)
        self.assertEqual(answer, laid_out(len(texts) - 1, texts))
        front, found = texts[0], texts[1:]
        self.assertEqual(letters_in([read(front)]), [])
        whole = front
        for place, text in enumerate(found):
            whole = by_product(whole, by_power(place + 1, text))
            self.assertEqual(write(plain_form(read(text))), text)
            self.hold_without_squares(text)
        self.assertEqual(whole, p)
        for first, second in itertools.combinations(found, 2):
            self.assertEqual(by_common(first, second), "1")
        if found:
            self.assertNotEqual(letters_in([read(found[-1])]), [])

    def hold_without_squares(self, text):
        polynomial = read(text)
        shared = text
        for letter in letters_in([polynomial]):
            shared = by_common(shared, write(slope_by(letter, polynomial)))
        self.assertEqual(shared, "1")

    def test_numbers(self):
        for number in NUMBERS:
            with self.subTest(number=number):
                self.assertEqual(parted(codes(number)), [0, len(number)] + codes(number))
                self.assertEqual(expected_parted(number), [0, len(number)] + codes(number))

    def test_one_letter_and_its_powers(self):
        for letter in LETTERS:
            self.hold([(letter, "1", [letter])])
            self.hold([(f"{letter}^{n}", "1", ["1"] * (n - 1) + [letter]) for n in range(2, 7)])

    def test_the_layout(self):
        self.assertEqual(parted(codes("-x^3 - x^2")), [2, 2, 45, 49, 5, 120, 32, 43, 32, 49, 1, 120])
        self.assertEqual(parted(codes("1/2")), [0, 3, 49, 47, 50])

    def test_no_square_goes_in(self):
        self.hold(NO_SQUARES)

    def test_powers_of_sums(self):
        self.hold(SQUARES)
        for text in ("x + y + z", "x - 2*y + 1", "3*a - z - 2"):
            self.hold([(write(to_power(read(text), 6)), "1", ["1"] * 5 + [text])])

    def test_powers_of_single_letters(self):
        self.hold(SINGLE_LETTERS)

    def test_letters_and_sums_together(self):
        self.hold(LETTERS_AND_SUMS)

    def test_a_square_in_one_letter_alone(self):
        self.hold(ONE_LETTER_ALONE)

    def test_powers_that_are_left_out(self):
        self.hold(LEFT_OUT)

    def test_the_number_out_front(self):
        self.hold(NUMBERS_OUT_FRONT)

    def test_letters_that_do_not_meet(self):
        self.hold([
            (product_of(["x - 1", "y - 1", "y - 1"]), "1", ["x - 1", "y - 1"]),
            (product_of(["x - 1", "x - 1", "y + 2", "y + 2"]), "1", ["1", "x*y + 2*x - y - 2"]),
            (product_of(["a + 1", "m - 1", "m - 1", "z", "z", "z"]), "1", ["a + 1", "m - 1", "z"]),
            (product_of(["x^2 + 1", "y", "y", "z + 1", "z + 1"]), "1", ["x^2 + 1", "y*z + y"]),
        ])

    def known(self, pool, counts):
        """The answer for a product in which so many of the pool's polynomials go in once, twice and so on."""
        chosen = self.chance.sample(pool, sum(counts))
        front = read(self.chance.choice(["1", "-1", "2/3", "-5"]))
        found, whole = [], front
        for n, count in enumerate(counts, start=1):
            here = [chosen.pop() for step in range(count)]
            found.append(write(plain_form(read(product_of(here)))))
            whole = times(whole, to_power(read(product_of(here)), n))
        return write(whole), found

    def test_products_of_known_ones_to_known_powers(self):
        tried = 0
        for letters, pool in INSEPARABLE.items():
            for counts in itertools.product(range(4), range(3), range(2)):
                for step in range(6):
                    p, found = self.known(pool, counts)
                    while found and found[-1] == "1":
                        found.pop()
                    if first_refusal([p], 6) == 0 and len(p) <= 1400:
                        tried += 1
                        with self.subTest(p=p):
                            answer = parted(codes(p))
                            self.assertEqual(texts_in(answer)[1:], found)
                            self.assertEqual(answer[0], len(found))
                            self.hold_as_promised(p)
        self.assertGreater(tried, 150)

    def some_product(self, highest, most, digits):
        """A product of random polynomials to random powers, small enough to be handed over."""
        while True:
            letters = sorted(self.chance.sample(LETTERS, self.chance.randint(1, 3)))
            whole = random_polynomial(self.chance, letters, self.chance.randint(0, highest), most, digits)
            for n in self.chance.sample([1, 2, 2, 3, 4], 2):
                other = random_polynomial(self.chance, letters, self.chance.randint(0, 2), most, digits)
                if degree_of(whole) + n * degree_of(other) <= 6:
                    whole = times(whole, to_power(other, n))
            if whole and first_refusal([write(whole)], 6) == 0 and len(write(whole)) <= 1400:
                return write(whole)

    def test_many_against_the_second_way(self):
        for step in range(250):
            p = self.some_product(self.chance.randint(0, 6), self.chance.choice([1, 2, 3]),
                                  self.chance.choice([1, 2, 3]))
            with self.subTest(p=p):
                self.assertEqual(parted(codes(p)), expected_parted(p))
                self.hold_as_promised(p)

    def test_squares_that_numbers_in_place_of_a_letter_would_feign(self):
        self.hold([
            ("x^2 + z", "1", ["x^2 + z"]),
            ("x^2 - 2*x*y + y^2 + z", "1", ["x^2 - 2*x*y + y^2 + z"]),
            ("z^4 - 6*z^3 + x^2 + 11*z^2 - 6*z", "1", ["z^4 - 6*z^3 + x^2 + 11*z^2 - 6*z"]),
            ("x^2*y*z + x^3", "1", ["y*z + x", "x"]),
        ])
        falling = ["x", "x - y", "x - 2*y", "x - 3*y", "x - 4*y", "x - 5*y"]
        self.hold([(product_of(falling), "1", [product_of(falling)]),
                   (product_of(falling[:4] + ["y", "y"]), "1", [product_of(falling[:4]), "y"])])

    def long_number(self):
        top = self.chance.choice([-1, 1]) * self.chance.randrange(10 ** 11, 10 ** 12)
        return Fraction(top, self.chance.choice([1, self.chance.randrange(10 ** 11, 10 ** 12)]))

    def largest(self):
        """Texts with 30 products or the longest numbers, of degree 6."""
        texts = [write({powers: self.long_number() for powers in self.chance.sample(products_up_to(6, "xyz"), 30)}),
                 write({powers: self.long_number() for powers in products_up_to(6, "xyz")[:30]}),
                 write({powers: self.long_number() for powers in products_up_to(6, "xy")}),
                 write({powers: self.long_number() for powers in products_up_to(6, "x")})]
        for shared in ("x", "z", "y", "x*z"):
            square = to_power(read(shared), 2)
            others = products_up_to(6 - degree_of(square), "xyz")
            texts.append(write(times(square, {powers: self.long_number() for powers in others[:30]})))
        texts.append(write(to_power(read("40*x - 39*y + 41*z"), 6)))
        texts.append(write(times(to_power(read("999*x - 998*y + 997*z"), 2), read("9999*x + 9998*y - 9997"))))
        texts.append(write(times(to_power(read("999999*x^3 - 999998"), 2), read("1/999999999999"))))
        texts.append(write(to_power(read("999*x^2 - 99*y*z + 9*x"), 3)))
        return texts

    def test_answers_come_within_seconds(self):
        for text in self.largest():
            with self.subTest(text=text[:40]):
                self.assertEqual(first_refusal([text], 6), 0)
                self.assertLessEqual(len(text), 1400)
                start = time.process_time()
                answer = parted(codes(text))
                self.assertLess(time.process_time() - start, 5)
                self.assertGreater(answer[0], 0)

    def test_the_largest_are_right(self):
        for text in self.largest():
            with self.subTest(text=text[:40]):
                texts = texts_in(parted(codes(text)))
                whole = read(texts[0])
                for place, found in enumerate(texts[1:]):
                    self.assertEqual(write(plain_form(read(found))), found)
                    whole = times(whole, to_power(read(found), place + 1))
                self.assertEqual(write(whole), text)

    def test_p_0(self):
        self.assertEqual(parted(codes("0")), [-3])

    def test_degree_6_and_7(self):
        self.hold([("x^6", "1", ["1"] * 5 + ["x"]), ("x^6 + x", "1", ["x^6 + x"]),
                   ("x^2*y^2*z^2", "1", ["1", "x*y*z"]), ("x*y^5", "1", ["x", "1", "1", "1", "y"])])
        for large in ("x^7", "x^8", "x^7 + x", "x^2*y^2*z^3", "x*y^6", "x*y^6 - 1", "x^9"):
            with self.subTest(large=large):
                self.assertEqual(parted(codes(large)), [-2])

    def test_the_other_bounds(self):
        many = products_up_to(5, "xyz")
        few = write({powers: 1 for powers in many[-30:]})
        self.assertEqual(parted(codes(few)), laid_out(1, ["1", few]))
        self.assertEqual(parted(codes(write({powers: 1 for powers in many[-31:]}))), [-2])
        for small, large in (("999999999999*x", "1000000000000*x"), ("1/999999999999*x", "1/1000000000000*x"),
                             ("x + 999999999999", "x - 1000000000000"), ("x*y*z", "w*x*y*z"),
                             ("x + y + z", "w + x + y + z"), ("x + 1/999999999999", "x + 1/1000000000001")):
            with self.subTest(small=small, large=large):
                self.assertEqual(parted(codes(small))[0], 1)
                self.assertEqual(parted(codes(large)), [-2])

    def test_wrong_texts(self):
        for text in ("", " ", "x + x", "1*x", "x^1", "00", "-0", "x+1", "y + x", "2/4", "X", "\xff", "x^9 + 1*y",
                     "01000000000000", "a*b*c*d + 0", "0*x", "x^2 + 2*x + 1 "):
            with self.subTest(text=text):
                self.assertEqual(parted(codes(text)), [-1])


if __name__ == "__main__":
    unittest.main()
