import itertools
import random
import time
import unittest
from fractions import Fraction

from letteredsums.polynomials import product, resultant
from tests.helping import (LETTERS, answered, codes, expected_resultant, first_refusal, height, products_up_to,
                           random_polynomial, read, table, value_of, write)

A, B, C, X, Y, Z = 0, 1, 2, 23, 24, 25

RESULTANTS = [
    (X, "x", "x", "0"),
    (X, "x", "x - 1", "-1"),
    (X, "x - 1", "x", "1"),
    (X, "x - 2", "x - 5", "-3"),
    (X, "2*x + 3", "5*x + 7", "-1"),
    (X, "x - y", "x - z", "y - z"),
    (X, "x - z", "x - y", "-y + z"),
    (X, "x - y", "x^2 - z", "y^2 - z"),
    (X, "x^2 - z", "x - y", "y^2 - z"),
    (Y, "x - y", "x - y - 1", "1"),
    (X, "x^2 + 1", "x^2 - 1", "4"),
    (X, "x^2 - y", "x^2 - z", "y^2 - 2*y*z + z^2"),
    (X, "x^2 + y^2 - 1", "x - y", "2*y^2 - 1"),
    (Y, "x^2 + y^2 - 1", "x - y", "2*x^2 - 1"),
    (X, "a*x + b", "x", "-b"),
    (X, "x", "a*x + b", "b"),
    (A, "a*x + b", "a", "-b"),
    (Z, "z", "b + z", "b"),
    (Z, "z", "b*z + 1", "1"),
    (Z, "b*z + 1", "z", "-1"),
]

BY_HEIGHTS = {
    (1, 1): ("3*x + 2", "5*x - 7", "-31"),
    (2, 1): ("x^2 + x + 1", "x - 3", "13"),
    (1, 2): ("x - 3", "x^2 + x + 1", "13"),
    (3, 1): ("2*x^3 - x + 5", "x - 2", "-19"),
    (1, 3): ("x - 2", "2*x^3 - x + 5", "19"),
    (4, 1): ("x^4 + x + 1", "2*x - 1", "25"),
    (1, 4): ("2*x - 1", "x^4 + x + 1", "25"),
    (2, 2): ("x^2 - 2", "x^2 - 3", "1"),
    (3, 2): ("x^3 - 2", "x^2 - 3", "-23"),
    (2, 3): ("x^2 - 3", "x^3 - 2", "-23"),
}

# Parts that are 0 between others, so that zeros stand on the table's diagonal as it's gone through.
WITH_ZEROS = [
    ("x^2 + 1", "x^3 + 1"),
    ("x^3 + 1", "x^2 + 1"),
    ("x^2", "x^3 + x"),
    ("x^2 + y", "x^2 + y + 1"),
    ("x^2 - 1", "x^2 + 1"),
    ("x^2 + 1", "x^2 + x + 1"),
    ("x^2 + x + y", "x^2 + x + z"),
    ("x^2*y + 1", "x^2*y + x"),
    ("x^4 + 1", "x"),
    ("x", "x^4 + 1"),
    ("x^4", "x + y"),
    ("x^3", "x^2 + 1"),
    ("x^3 + x", "x^2 + y"),
    ("x^3 + y", "x^2"),
    ("x^3*y + 1", "x^2*z + 1"),
    ("x^3*y + z", "x^2*z + y"),
    ("x^2*y*z - y", "x^3*z + x^2*z - 1"),
]

SHARED = [
    ("x - 1", "x^2 - 1"),
    ("x^2 - 1", "x^3 - 1"),
    ("x^2 - y^2", "x - y"),
    ("x^2 - y^2", "x^2 - 2*x*y + y^2"),
    ("x*y + z", "x^2*y^2 - z^2"),
    ("x^4 - y^4", "x + y"),
    ("x", "x^4"),
    ("-2/3*x + y", "x^2 - 3/2*x*y"),
    ("x^2 + y", "x^3 + x*y"),
    ("x^2*z + x*y*z + y", "x^2*z + x*y*z + y"),
]

WITH_FRACTIONS = [
    (X, "1/2*x + 1/3", "1/5*x - 1/7", "-29/210"),
    (X, "1/2*x + 1/3*y", "1/5*x - 1/7*y", "-29/210*y"),
    (X, "x - 1/2", "x^2 - 1/3", "-1/12"),
    (X, "x - 1/2*y", "x^2 - 1/3*z", "1/4*y^2 - 1/3*z"),
    (X, "-1/2*x^2 + y", "2*x - 2/3", "4*y - 2/9"),
    (X, "1/999999999999*x", "x + 999999999999", "1"),
    (X, "1/999999999999*x + 1", "1/999999999999*x - 1", "-2/999999999999"),
]


def determinant_of_numbers(rows):
    """By taking multiples of rows off others, with a change of rows where a zero stands at the place."""
    rows = [list(row) for row in rows]
    result = Fraction(1)
    for place in range(len(rows)):
        found = next((row for row in range(place, len(rows)) if rows[row][place]), None)
        if found is None:
            return Fraction(0)
        if found != place:
            rows[place], rows[found] = rows[found], rows[place]
            result = -result
        result *= rows[place][place]
        for row in range(place + 1, len(rows)):
            factor = rows[row][place] / rows[place][place]
            rows[row] = [number - factor * above for number, above in zip(rows[row], rows[place])]
    return result


class Resultant(unittest.TestCase):
    def setUp(self):
        self.chance = random.Random(11)

    def hold(self, cases):
        for letter, p, q, result in cases:
            with self.subTest(letter=letter, p=p, q=q):
                self.assertEqual(resultant(letter, codes(p), codes(q)), answered(result))
                self.assertEqual(expected_resultant(letter, p, q), answered(result))

    def hold_by_numbers(self, letter, p, q):
        """The answer with numbers in place of the letters against the table's determinant with these numbers."""
        answer = resultant(letter, codes(p), codes(q))
        text = bytes(answer[2:]).decode()
        self.assertEqual(answer, answered(text))
        self.assertNotIn(LETTERS[letter], text)
        found, rows = read(text), table(LETTERS[letter], read(p), read(q))
        for step in range(4):
            values = {other: Fraction(self.chance.randrange(-99, 100), self.chance.randrange(1, 9)) for other in LETTERS}
            numbers = [[value_of(entry, values) for entry in row] for row in rows]
            self.assertEqual(value_of(found, values), determinant_of_numbers(numbers))

    def test_ordinary(self):
        self.hold(RESULTANTS)

    def test_each_pair_of_heights(self):
        for heights, (p, q, result) in BY_HEIGHTS.items():
            self.assertEqual((height("x", read(p)), height("x", read(q))), heights)
            self.hold([(X, p, q, result)])
        self.assertEqual(set(BY_HEIGHTS), {(n, m) for n in range(1, 5) for m in range(1, 5) if n + m <= 5})

    def test_zeros_in_the_table(self):
        for p, q in WITH_ZEROS:
            with self.subTest(p=p, q=q):
                self.assertEqual(resultant(X, codes(p), codes(q)), expected_resultant(X, p, q))
                self.hold_by_numbers(X, p, q)

    def test_something_with_the_letter_in_common(self):
        self.hold([(X, p, q, "0") for p, q in SHARED] + [(X, q, p, "0") for p, q in SHARED])

    def test_something_without_the_letter_in_common(self):
        self.hold([(X, "x*y", "x*y + y", "y^2"), (X, "x*y + y", "x*y", "-y^2"), (X, "x*y*z - y*z", "x^2*z", "y^2*z^3")])

    def test_parts_with_other_letters(self):
        self.hold([
            (X, "a*x + b", "a*x - b", "-2*a*b"),
            (X, "a*x^2 + b", "2*a*x", "4*a^2*b"),
            (X, "a*x + x^2 + b", "a + 2*x", "-a^2 + 4*b"),
            (X, "x^3 + a*x + b", "3*x^2 + a", "4*a^3 + 27*b^2"),
            (X, "x*y - 1", "x*z - 1", "-y + z"),
            (B, "a*b^2 + c", "b*c - a", "a^3 + c^3"),
            (C, "a*b^2 + c", "b*c - a", "-a*b^3 - a"),
        ])

    def test_fractions(self):
        self.hold(WITH_FRACTIONS)

    def test_the_sign_where_p_and_q_change_places(self):
        texts = ["x - y", "2*x^2 + z", "x^3 + x*y - 1/2", "x^4 - x + y", "x*z + 3"]
        for p, q in itertools.combinations(texts, 2):
            tall, other = height("x", read(p)), height("x", read(q))
            if tall + other <= 5:
                one, changed = resultant(X, codes(p), codes(q)), resultant(X, codes(q), codes(p))
                with self.subTest(p=p, q=q):
                    self.assertNotEqual(one, answered("0"))
                    self.assertEqual(one == changed, tall * other % 2 == 0)
                    if tall * other % 2 == 1:
                        self.assertEqual(one, product(changed[2:], codes("-1")))

    def some_text(self, letters, letter, tall, most, digits):
        """A polynomial of degree 5 at most in which the letter has this height."""
        while True:
            found = random_polynomial(self.chance, letters, 5, most, digits)
            found = {powers: number for powers, number in found.items() if dict(powers).get(letter, 0) <= tall}
            if height(letter, found) == tall and first_refusal([write(found)], 5) == 0:
                return write(found)

    def test_many_against_the_second_way(self):
        for step in range(200):
            letters = "".join(sorted(self.chance.sample(LETTERS, self.chance.randint(1, 3))))
            letter = self.chance.choice(letters)
            tall = self.chance.randint(1, 4)
            p = self.some_text(letters, letter, tall, 6, 3)
            q = self.some_text(letters, letter, self.chance.randint(1, 5 - tall), 6, 3)
            with self.subTest(letter=letter, p=p, q=q):
                number = LETTERS.index(letter)
                self.assertEqual(resultant(number, codes(p), codes(q)), expected_resultant(number, p, q))
                self.hold_by_numbers(number, p, q)

    def largest(self, tall):
        """Thirty products in three letters with the longest numbers, the letter x at this height."""
        products = [powers for powers in products_up_to(5, "xyz") if dict(powers).get("x", 0) <= tall]
        first = [powers for powers in products if dict(powers).get("x", 0) == tall][:1]
        others = [powers for powers in products if powers not in first]
        return write({powers: Fraction(self.chance.choice([-1, 1]) * self.chance.randrange(10 ** 11, 10 ** 12),
                                       self.chance.randrange(10 ** 11, 10 ** 12))
                      for powers in first + self.chance.sample(others, 29)})

    def test_answers_come_within_seconds(self):
        for tall, other in ((4, 1), (1, 4), (2, 3), (3, 2), (2, 2)):
            p, q = self.largest(tall), self.largest(other)
            with self.subTest(heights=(tall, other)):
                start = time.process_time()
                answer = resultant(X, codes(p), codes(q))
                self.assertLess(time.process_time() - start, 5)
                self.assertEqual(answer[:2], [1, len(answer) - 2])

    def test_many_of_the_largest(self):
        for tall, other in ((1, 1), (2, 1), (1, 4), (2, 3), (3, 2)):
            self.hold_by_numbers(X, self.largest(tall), self.largest(other))

    def test_one_has_not_the_letter(self):
        without = ["0", "1", "-7/3", "y", "y*z - 1", "y^5"]
        for p in without:
            for q in without + ["x", "x^5", "x*y - z"]:
                with self.subTest(p=p, q=q):
                    self.assertEqual(resultant(X, codes(p), codes(q)), [-3])
                    self.assertEqual(resultant(X, codes(q), codes(p)), [-3])
        self.assertEqual(resultant(A, codes("x"), codes("x*y*z")), [-3])

    def test_both_heights_together(self):
        for p, q in (("x^4", "x + 1"), ("x + 1", "x^4"), ("x^3", "x^2 + 1"), ("x^2*y^3 - 1", "x^3*y^2")):
            with self.subTest(p=p, q=q):
                self.assertEqual(resultant(X, codes(p), codes(q)), expected_resultant(X, p, q))
                self.assertEqual(resultant(X, codes(p), codes(q))[0], 1)
        for p, q in (("x^5", "x + 1"), ("x + 1", "x^5"), ("x^3", "x^3 + 1"), ("x^4", "x^2"), ("x^2", "x^4"),
                     ("x^5", "x^5"), ("x^4", "x^4*y")):
            with self.subTest(p=p, q=q):
                self.assertEqual(resultant(X, codes(p), codes(q)), [-2])
        # The heights of the letter count, not the degrees and not other letters' heights.
        self.assertEqual(resultant(X, codes("x*y^4"), codes("x^2*y^3 + y^5"))[0], 1)
        self.assertEqual(resultant(Y, codes("x*y^4"), codes("x^2*y^3 + y^5")), [-2])

    def test_degree_5_and_6(self):
        self.hold([(X, "x*y^4", "x", "0"), (X, "x*y^4 + 1", "x", "-1"), (X, "x", "x*y^2*z^2 + 1", "1")])
        for large in ("x*y^5", "x*y^5 + 1", "x*y^3*z^2", "x^6", "y^6 + x"):
            for other in ("0", "1", "x", "y", "x^5"):
                with self.subTest(large=large, other=other):
                    self.assertEqual(resultant(X, codes(large), codes(other)), [-2])
                    self.assertEqual(resultant(X, codes(other), codes(large)), [-2])

    def test_the_other_bounds_with_the_letter_in_both(self):
        many = products_up_to(4, "xyz")
        few = [powers for powers in many if dict(powers).get("x", 0) <= 3]
        self.assertEqual(resultant(X, codes(write({powers: 1 for powers in few[:30]})), codes("x"))[0], 1)
        self.assertEqual(resultant(X, codes(write({powers: 1 for powers in few[:31]})), codes("x")), [-2])
        for small, large in (("999999999999*x", "1000000000000*x"), ("1/999999999999*x", "1/1000000000000*x"),
                             ("x + 999999999999", "x - 1000000000000"), ("x*y*z", "w*x*y*z"),
                             ("x + 1/999999999999", "x + 1/1000000000001")):
            with self.subTest(small=small, large=large):
                for other in ("x", "x + 1"):
                    for p, q in ((small, other), (other, small)):
                        self.assertEqual(expected_resultant(X, p, q)[0], 1)
                        self.assertEqual(resultant(X, codes(p), codes(q)), expected_resultant(X, p, q))
                    self.assertEqual(resultant(X, codes(large), codes(other)), [-2])
                    self.assertEqual(resultant(X, codes(other), codes(large)), [-2])
        self.assertEqual(resultant(X, codes("x*y"), codes("x*z"))[0], 1)
        self.assertEqual(resultant(X, codes("x*y + w"), codes("x*z")), [-2])
        self.assertEqual(resultant(X, codes("w*x + y"), codes("x*z")), [-2])

    def test_the_letters_number(self):
        self.hold([(A, "a", "a - 1", "-1"), (Z, "z", "z - 1", "-1")])
        for letter in (26, 27, 256, 4294967295):
            with self.subTest(letter=letter):
                self.assertEqual(resultant(letter, codes("x"), codes("x - 1")), [-4])

    def test_the_refusal_told_first(self):
        large = ["x^6", "w*x*y*z", "1000000000000", "1/1000000000000*x"]
        wrong = ["", "x + x", "1*x", "x^9 + 1*y"]
        fine = ["0", "1", "x", "y", "x^3", "x^5"]
        for p in large + wrong + fine:
            for q in large + wrong + fine:
                self.assertEqual(resultant(26, codes(p), codes(q)), [-4], (p, q))
        for text in wrong:
            for other in large + wrong + fine:
                self.assertEqual(resultant(X, codes(text), codes(other)), [-1], (text, other))
                self.assertEqual(resultant(X, codes(other), codes(text)), [-1], (text, other))
        for text in large:
            for other in large + fine:
                self.assertEqual(resultant(X, codes(text), codes(other)), [-2], (text, other))
                self.assertEqual(resultant(X, codes(other), codes(text)), [-2], (text, other))
        # Point 3's two refusals never meet: beside no height at all, the other one is 5 at most.
        self.assertEqual(resultant(X, codes("x^5"), codes("y")), [-3])
        self.assertEqual(resultant(X, codes("y^5"), codes("x^5")), [-3])


if __name__ == "__main__":
    unittest.main()
