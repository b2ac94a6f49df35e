import random
import time
import unittest
from fractions import Fraction

from letteredsums.polynomials import common, over
from tests.helping import (LETTERS, answered, codes, expected_common, first_refusal, in_common, plain_form,
                           products_up_to, quotient, random_polynomial, read, share_only_numbers, times, to_power,
                           write)

ONE_LETTER = [
    ("x^2 - 1", "x - 1", "x - 1"),
    ("x^2 - 1", "x^2 + 2*x + 1", "x + 1"),
    ("x^2 - 1", "x^3 - 1", "x - 1"),
    ("x^4 - 1", "x^5 - x^3", "x^2 - 1"),
    ("x^5", "x^3 + x^2", "x^2"),
    ("z^5 - 1", "z^3 - 1", "z - 1"),
    ("a^4 + a^2 + 1", "a^3 - 1", "a^2 + a + 1"),
    ("6*x^2 + 5*x + 1", "4*x^2 - 1", "2*x + 1"),
]

TWO_LETTERS = [
    ("x^2 - y^2", "x^2 - 2*x*y + y^2", "x - y"),
    ("x^2 - y^2", "x^3 + y^3", "x + y"),
    ("x*y + x", "y^2 - 1", "y + 1"),
    ("x*y", "x^2*y", "x*y"),
    ("x^2*y^2", "x*y^3", "x*y^2"),
    ("x^4 + x^2*y^2 + y^4", "x^3 - y^3", "x^2 + x*y + y^2"),
    ("a*z - a - z + 1", "z^2 - 1", "z - 1"),
    ("a*z - a - z + 1", "a^2 - 1", "a - 1"),
    ("x^2*y - x*y^2", "x^2*y + x*y^2", "x*y"),
]

THREE_LETTERS = [
    ("x^3 - 3*x*y*z + y^3 + z^3", "x^2 + 2*x*y + 2*x*z + y^2 + 2*y*z + z^2", "x + y + z"),
    ("x*y + x*z", "y^2 - z^2", "y + z"),
    ("x*y*z", "y^2*z^2", "y*z"),
    ("a*b + b*c", "a*b*c + b*c^2", "a*b + b*c"),
    ("a*b*c - a*b - c + 1", "a^2*b^2 - 1", "a*b - 1"),
    ("x*z - y*z + x - y", "x*z + y*z + x + y", "z + 1"),
    ("x^2*y^2*z - z", "x*y*z^2 + z^2", "x*y*z + z"),
    ("a^2 - b^2 - 2*b*c - c^2", "a*b + b^2 + b*c", "a + b + c"),
]

SOME_LETTERS_MEET = [
    ("x*y - y", "x*z - z", "x - 1"),
    ("x*y", "y*z", "y"),
    ("x^2*y + x*y", "x^2*z - z", "x + 1"),
    ("a^2*b", "b^2*c", "b"),
    ("x^2 - 1", "x*z + z", "x + 1"),
    ("x*z + z", "x^2 - 1", "x + 1"),
    ("a*m - m", "a*z^2 - z^2", "a - 1"),
    ("m*z", "z^2 - z", "z"),
]

NOTHING_IN_COMMON = [
    ("x", "y"),
    ("x + 1", "y + 1"),
    ("a^5", "z^5"),
    ("x*y", "z"),
    ("x^2 - 1", "y^2 - 1"),
    ("x", "x + 1"),
    ("2*x", "2*x + 2"),
    ("x^2 + 1", "x^2 - 1"),
    ("x + y", "x - y"),
    ("x*y + 1", "x*y - 1"),
    ("x^5 + y", "x^5 + z"),
    ("x*y*z + 1", "x + y + z"),
    ("x^2 + y^2 + z^2", "x + y + z"),
    ("6*x + 3*y", "6*x - 3*y"),
    ("x^2 + x*y", "y^2 + z"),
    ("x^2*y - z", "x*y^2 - z"),
]

PLAIN = [
    ("-3*x + 3/2", "-3*x + 3/2", "2*x - 1"),
    ("-x + 1", "-x^2 + 1", "x - 1"),
    ("-x", "-x", "x"),
    ("x", "-x", "x"),
    ("-1/2*x", "-1/3*x^2", "x"),
    ("4*x^2 - 4", "6*x - 6", "x - 1"),
    ("1/2*x^2 - 1/2*y^2", "1/3*x + 1/3*y", "x + y"),
    ("x^2 - 1/4", "x^2 + x + 1/4", "2*x + 1"),
    ("-1/6*x^2 - 13/36*x*y - 1/6*y^2", "1/2*x^2 + 1/3*x*y", "3*x + 2*y"),
    ("-2/3*x*y*z", "-4/9*y^2*z", "y*z"),
    ("-x*y + y^2", "x*z - y*z", "x - y"),
    ("1/999999999999*x - 1", "-1/999999999999*x^2 + x", "x - 999999999999"),
    ("999999999999*x - 999999999998", "-x + 999999999998/999999999999", "999999999999*x - 999999999998"),
]

# With small whole numbers in place of a letter these have something in common, though by themselves they have not.
UNLUCKY = [
    ("x^5 + z^5 - 10*z^4 + 35*z^3 - 50*z^2 + 24*z", "x"),
    ("x*y + z", "x"),
    ("x^2 + z", "x^2 - z"),
    ("x^2 + z^2", "x^2 - z^2"),
    ("x*z", "x*y + y"),
]


def product_of(texts):
    result = read("1")
    for text in texts:
        result = times(result, read(text))
    return write(result)


class Common(unittest.TestCase):
    def setUp(self):
        self.chance = random.Random(7)

    def hold(self, cases):
        for p, q, result in cases:
            with self.subTest(p=p, q=q):
                self.assertEqual(common(codes(p), codes(q)), answered(result))
                self.assertEqual(common(codes(q), codes(p)), answered(result))
                self.assertEqual(expected_common(p, q), answered(result))

    def hold_by_dividing(self, p, q):
        """That the answer goes into both and is in plain form, and that what is left has nothing in common."""
        with self.subTest(p=p, q=q):
            answer = common(codes(p), codes(q))
            self.assertEqual(common(codes(q), codes(p)), answer)
            found = bytes(answer[2:]).decode()
            self.assertEqual(answer, answered(found))
            self.assertEqual(write(plain_form(read(found))), found)
            left = [quotient(read(text), read(found)) for text in (p, q)]
            self.assertNotIn(None, left)
            self.assertTrue(share_only_numbers(self.chance, left[0], left[1]))
            self.hold_by_over(p, q, found, [write(part) for part in left])
            return found

    def hold_by_over(self, p, q, found, left):
        # The answer itself may be too large to be handed over.
        if first_refusal([p, q, found]) == 0:
            self.assertEqual(over(codes(p), codes(found)), answered(left[0]))
            self.assertEqual(over(codes(q), codes(found)), answered(left[1]))
        if first_refusal(left, 5) == 0:
            self.assertEqual(common(codes(left[0]), codes(left[1])), answered("1"))

    def test_one_letter(self):
        self.hold(ONE_LETTER)

    def test_two_letters(self):
        self.hold(TWO_LETTERS)

    def test_three_letters(self):
        self.hold(THREE_LETTERS)

    def test_letters_of_which_some_meet(self):
        self.hold(SOME_LETTERS_MEET)

    def test_nothing_but_numbers(self):
        self.hold([(p, q, "1") for p, q in NOTHING_IN_COMMON])

    def test_one_is_0(self):
        self.hold([("0", "x", "x"), ("0", "-x", "x"), ("0", "-3*x + 3/2", "2*x - 1"), ("0", "7", "1"),
                   ("0", "-7/3", "1"), ("0", "6*x*y - 4*z", "3*x*y - 2*z"), ("0", "x^5", "x^5"),
                   ("0", "1/2*x^5 + 1/3*y^5 + 1/5*z^5", "15*x^5 + 10*y^5 + 6*z^5")])

    def test_one_is_a_number(self):
        for number in ("1", "-1", "7", "-7/3", "999999999999", "1/999999999999"):
            self.hold([(number, other, "1") for other in ("1", "-6", "14/3", "x", "7*x - 7", "x^5 - y*z", "7*x*y*z")])

    def test_alike(self):
        for p, result in (("x", "x"), ("-7/3", "1"), ("3/2*x^2*y - x + 1", "3*x^2*y - 2*x + 2"), ("-x^5", "x^5"),
                          ("-2*x*y*z + 4", "x*y*z - 2"), ("x^5 - y^5 + z^5", "x^5 - y^5 + z^5"),
                          ("x^2*y*z^2 - 6*x", "x^2*y*z^2 - 6*x")):
            self.hold([(p, p, result)])
            self.hold([(p, write(times(read(p), read("-2/3"))), result)])

    def test_one_goes_into_the_other(self):
        for p in ("x - 1", "2*x - y", "x*y + z", "x + y + z", "a*b - 1/2", "z^2 + 1", "-x*y"):
            for q in ("x^2 + 1", "y - 3*z", "x*y*z", "a^3 - b", "-1/7*z + 1"):
                if first_refusal([p, q]) == 0:
                    self.hold([(p, product_of([p, q]), write(plain_form(read(p))))])

    def test_plain_form(self):
        self.hold(PLAIN)

    def test_powers(self):
        self.hold([
            ("x^3", "x^2*y", "x^2"),
            ("x^3*y", "x^3*z", "x^3"),
            (product_of(["x - y", "x - y", "x + y"]), product_of(["x - y", "x - y", "y + 1"]), "x^2 - 2*x*y + y^2"),
            (product_of(["x + 1", "x + 1", "x + 1"]), product_of(["x + 1", "x + 1"]), "x^2 + 2*x + 1"),
        ])
        for text in ("x - 1", "x + y", "x + y + z", "2*a - 3*b + c", "z - 1/2", "y + z"):
            for power in (2, 3):
                shared = to_power(read(text), power)
                for first, second in (("x + 5", "x - 5"), ("y - 2", "y*z + 1"), (text, "x*z - 7"), ("b", "c^2")):
                    p, q = write(times(shared, read(first))), write(times(shared, read(second)))
                    if first_refusal([p, q], 5) == 0:
                        self.hold([(p, q, write(plain_form(shared)))])

    def test_numbers_in_place_of_a_letter_that_have_more_in_common(self):
        self.hold([(p, q, "1") for p, q in UNLUCKY])
        falling = product_of(["x", "x - 1", "x - 2", "x - 3", "x - 4"])
        for other in ("y", "z"):
            steps = product_of([f"x - {other} + {5 * step}" if step else f"x - {other}" for step in range(5)])
            self.hold([(falling, steps, "1")])
        for shared in ("x + y", "z - 1", "y*z"):
            self.hold([(product_of([shared, p]), product_of([shared, q]), shared)
                       for p, q in (("x", "x^2 + z"), ("x^2 + z", "x^2 - z"), ("x*y + z", "x"), ("x*z + z^2", "x - y"))])

    def test_products_of_the_highest_degree_in_which_a_letter_is_never_alone(self):
        lines = ["y"] + [f"{n}*x - y" if n > 1 else "x - y" for n in range(1, 10)]
        self.hold([(product_of(lines[:5]), product_of(lines[5:]), "1"),
                   (product_of(lines[:5]), product_of(lines[3:8]), product_of(lines[3:5]))])
        self.hold([(product_of(["z", "x - z", "y", "3*x - y", "4*x - y"]),
                    product_of(["z", "512*x - z", "x - y", "5*x - y", "2*x - y"]), "z"),
                   ("x*y*z + 1", "x^2*y^2*z + x*y", "x*y*z + 1")])

    def some_products(self, letters, own, most, digits):
        """Two products of degree 5 at most with a third polynomial in both."""
        while True:
            shared = random_polynomial(self.chance, letters, own, most, digits)
            pair = [times(shared, random_polynomial(self.chance, letters, 5 - own, most, digits)) for step in range(2)]
            texts = [write(polynomial) for polynomial in pair]
            if all(pair) and not first_refusal(texts, 5) and max(len(text) for text in texts) <= 1400:
                return shared, texts[0], texts[1]

    def test_many_products_with_a_known_third(self):
        for step in range(300):
            letters = "".join(sorted(self.chance.sample(LETTERS, self.chance.randint(1, 3))))
            shared, p, q = self.some_products(letters, self.chance.randint(1, 5), self.chance.choice([2, 3, 6, 12]),
                                              self.chance.choice([1, 2, 4]))
            found = self.hold_by_dividing(p, q)
            self.assertIsNotNone(quotient(read(found), shared))

    def test_many_at_the_full_degree_with_long_numbers(self):
        products = products_up_to(5, "xyz")
        for step in range(40):
            own = self.chance.randint(1, 4)
            shared = {self.chance.choice(products_up_to(own, "xyz")[:own + 1]): Fraction(1)}
            others = products_up_to(5 - own, "xyz")
            texts = []
            for part in range(2):
                chosen = self.chance.sample(others, min(30, len(others)))
                texts.append(write(times(shared, {powers: self.long_number() for powers in chosen})))
            self.assertEqual(first_refusal(texts, 5), 0)
            found = self.hold_by_dividing(texts[0], texts[1])
            self.assertIsNotNone(quotient(read(found), shared))
        for step in range(20):
            texts = [write({powers: self.long_number() for powers in self.chance.sample(products, 30)})
                     for part in range(2)]
            self.hold_by_dividing(texts[0], texts[1])

    def long_number(self):
        top = self.chance.choice([-1, 1]) * self.chance.randrange(10 ** 11, 10 ** 12)
        return Fraction(top, self.chance.choice([1, 10 ** 12 - 11, self.chance.randrange(10 ** 11, 10 ** 12)]))

    def test_long_numbers_with_sums_in_common(self):
        for step in range(60):
            shared, p, q = self.some_products("xyz", self.chance.randint(1, 3), 3, 6)
            found = self.hold_by_dividing(p, q)
            self.assertIsNotNone(quotient(read(found), shared))

    def test_against_the_second_way(self):
        for step in range(150):
            letters = "".join(sorted(self.chance.sample(LETTERS, self.chance.randint(1, 3))))
            shared, p, q = self.some_products(letters, self.chance.randint(0, 5), self.chance.choice([2, 4]), 2)
            with self.subTest(p=p, q=q):
                self.assertEqual(common(codes(p), codes(q)), expected_common(p, q))
                self.assertEqual(in_common(read(p), shared), plain_form(shared))

    def test_answers_come_within_seconds(self):
        products = products_up_to(4, "xyz")
        for factor in ("x", "z", "y - 1"):
            pair = []
            for part in range(2):
                many = {powers: self.long_number() for powers in products[:30 if len(factor) == 1 else 12]}
                pair.append(write(times(many, read(factor))))
            with self.subTest(factor=factor):
                start = time.process_time()
                common(codes(pair[0]), codes(pair[1]))
                self.assertLess(time.process_time() - start, 5)

    def test_both_0(self):
        self.assertEqual(common(codes("0"), codes("0")), [-3])

    def test_degree_5_and_6(self):
        for small, large in (("x^5", "x^6"), ("x^2*y^2*z", "x^2*y^2*z^2"), ("x^5 - y", "x^6 - y"), ("y*z^4", "y*z^5")):
            for other in ("0", "1", "x", "x^5", small):
                with self.subTest(small=small, other=other):
                    self.assertEqual(common(codes(small), codes(other)), expected_common(small, other))
                    self.assertEqual(common(codes(large), codes(other)), [-2])
                    self.assertEqual(common(codes(other), codes(large)), [-2])

    def test_the_refusal_told_first(self):
        large = ["x^6", "w*x*y*z", "1000000000000", "1/1000000000000*x"]
        wrong = ["", "x + x", "1*x", "x^9 + 1*y"]
        for text in wrong:
            for other in large + wrong + ["0", "x"]:
                self.assertEqual(common(codes(text), codes(other)), [-1], (text, other))
                self.assertEqual(common(codes(other), codes(text)), [-1], (text, other))
        for text in large:
            for other in large + ["0", "x"]:
                self.assertEqual(common(codes(text), codes(other)), [-2], (text, other))
                self.assertEqual(common(codes(other), codes(text)), [-2], (text, other))
        for p, q in (("x*y", "w*z"), ("x*y*z", "w"), ("a + b", "c*d")):
            self.assertEqual(common(codes(p), codes(q)), [-2])


if __name__ == "__main__":
    unittest.main()
