import unittest

from letteredsums.polynomials import over, product
from tests.helping import answered, codes, expected_over, products_up_to, read, times, to_power, write

QUOTIENTS = [
    ("x^2 - y^2", "x - y", "x + y"),
    ("x^2 - y^2", "x + y", "x - y"),
    ("x^3 - y^3", "x - y", "x^2 + x*y + y^2"),
    ("x^4 + 4", "x^2 + 2*x + 2", "x^2 - 2*x + 2"),
    ("a*b*c", "b", "a*c"),
    ("a*b*c", "a*c", "b"),
    ("a^2*b^2 - 2*a*b*c + c^2", "a*b - c", "a*b - c"),
    ("-3/2*x^3*y + x^2 - x", "-x", "3/2*x^2*y - x + 1"),
    ("-3/2*x^3*y + x^2 - x", "3/2*x^2*y - x + 1", "-x"),
    ("x^3 - 3*x*y*z + y^3 + z^3", "x + y + z", "x^2 - x*y - x*z + y^2 - y*z + z^2"),
    ("x*y + x*z + y^2 + y*z", "x + y", "y + z"),
    ("x^8 - 1", "x^4 + 1", "x^4 - 1"),
]

FRACTIONS = [
    ("x^2 - 1/4", "x - 1/2", "x + 1/2"),
    ("x^2 - 1/4", "2*x - 1", "1/2*x + 1/4"),
    ("x^2 - 1/4", "1/3*x - 1/6", "3*x + 3/2"),
    ("1/6*x^2 + 13/36*x*y + 1/6*y^2", "1/2*x + 1/3*y", "1/3*x + 1/2*y"),
    ("-x^2 + 1", "x - 1", "-x - 1"),
    ("x^2 - 1", "-x + 1", "-x - 1"),
    ("-x^2 + 1", "-x + 1", "x + 1"),
    ("-2/3*x*y", "-4/9*y", "3/2*x"),
    ("3*x^2 - 3", "2*x - 2", "3/2*x + 3/2"),
    ("6*x^2 - 6", "2*x - 2", "3*x + 3"),
    ("x", "7*x", "1/7"),
]

BY_NUMBERS = [
    ("x + 1", "1", "x + 1"),
    ("x + 1", "-1", "-x - 1"),
    ("x + 1", "2", "1/2*x + 1/2"),
    ("3/2*x^2*y - x + 1", "3/2", "x^2*y - 2/3*x + 2/3"),
    ("3/2*x^2*y - x + 1", "-1/6", "-9*x^2*y + 6*x - 6"),
    ("7", "7", "1"),
    ("7", "-2", "-7/2"),
    ("1/6", "1/4", "2/3"),
    ("-1", "999999999999", "-1/999999999999"),
]

NOT_GOING_IN = {
    "by degree": [("x", "x^2"), ("1", "x"), ("7", "x - 7"), ("x + y", "x*y"), ("x^7", "x^8"), ("-1/2", "x^8 + 1"),
                  ("x^2 + x", "x^3 + x^2")],
    "by a letter": [("x^2", "y"), ("x^2 - 1", "x*y - y"), ("x^8", "a"), ("x^2 + x", "z + 1"), ("x*y", "x + z"),
                    ("x^4 - 1", "x^2 - y^2 + y"), ("x^3", "x + y")],
    "by a rest at the end": [("x^2", "x - 1"), ("x^2 + 1", "x + 1"), ("x^2 - y^2 + 1", "x - y"),
                             ("x^8 - 2", "x - 1"), ("x^3 - y^3 + x", "x - y"), ("x*y + x + y", "x + 1"),
                             ("x^4 + 5", "x^2 + 2*x + 2"), ("x^3 - 3*x*y*z + y^3 + z^3 + z", "x + y + z"),
                             ("x^2 - 1/3", "x - 1/2"), ("x^8 - 1/999999999999", "x - 1")],
    "by numbers": [("x^2 + x", "2*x + 1"), ("x^2 + 1", "x^2 + 2"), ("x + 1", "x - 1"), ("2*x + 1", "x + 1"),
                   ("3*x*y + y", "2*x + 1")],
    "by a product": [("x^2 + y", "x"), ("x^2*y + x*y^2 + 1", "x*y"), ("x*y^2", "x^2"), ("x^2*z + y^2", "x + y"),
                     ("x^3", "x*y"), ("y^8", "x^2"), ("a*b + b*c + c", "b")],
}

LARGE = ["x^9", "w*x*y*z", "1000000000000", "1/1000000000000*x"]
WRONG = ["", "x + x", "1*x", "x^9 + 1*y"]


class Over(unittest.TestCase):
    def hold(self, cases):
        for p, q, result in cases:
            with self.subTest(p=p, q=q):
                self.assertEqual(over(codes(p), codes(q)), answered(result))
                self.assertEqual(expected_over(p, q), answered(result))

    def test_ordinary(self):
        self.hold(QUOTIENTS)

    def test_fractions(self):
        self.hold(FRACTIONS)

    def test_by_numbers(self):
        self.hold(BY_NUMBERS)

    def test_0_by_others(self):
        self.hold([("0", q, "0") for q in ("1", "-7/3", "x", "x^8", "3/2*x^2*y - x + 1", "a + b + c")])

    def test_by_itself(self):
        for p in ("1", "-7/3", "x", "-x", "3/2*x^2*y - x + 1", "x^8 - y^8", "999999999999*a - 1/2"):
            self.hold([(p, p, "1")])
            self.assertEqual(over(codes(p), product(codes(p), codes("-2/3"))[2:]), answered("-3/2"))

    def test_what_does_not_go_in(self):
        for kind, pairs in NOT_GOING_IN.items():
            for p, q in pairs:
                with self.subTest(kind=kind, p=p, q=q):
                    self.assertEqual(over(codes(p), codes(q)), [-5])
                    self.assertEqual(expected_over(p, q), [-5])

    def test_quotients_with_many_products(self):
        rising = " + ".join(f"x^{n}" for n in range(7, 1, -1)) + " + x + 1"
        self.hold([("x^8 - 1", "x - 1", rising)])
        mixed = " + ".join(["x^7", "x^6*y", "x^5*y^2", "x^4*y^3", "x^3*y^4", "x^2*y^5", "x*y^6", "y^7"])
        self.hold([("x^8 - y^8", "x - y", mixed)])
        # Thirty products in p at most, and far more of them in the quotient.
        top = write(times(read("x^4 - 1"), times(read("y^2 - 1"), read("z^2 - 1"))))
        below = write(times(read("x - 1"), times(read("y - 1"), read("z - 1"))))
        full = write(times(read("x^3 + x^2 + x + 1"), times(read("y + 1"), read("z + 1"))))
        self.assertGreater(full.count(" + "), top.count(" + ") + top.count(" - "))
        self.hold([(top, below, full)])

    def test_quotients_with_products_that_p_has_not(self):
        self.hold([
            ("x^4 + x^2*y^2 + y^4", "x^2 + x*y + y^2", "x^2 - x*y + y^2"),
            ("x^4 + x^2*y^2 + y^4", "x^2 - x*y + y^2", "x^2 + x*y + y^2"),
            ("x^4 + 4*y^4", "x^2 + 2*x*y + 2*y^2", "x^2 - 2*x*y + 2*y^2"),
            ("x^3 + z^3", "x + z", "x^2 - x*z + z^2"),
            ("a^2 - b^2 - 2*b*c - c^2", "a - b - c", "a + b + c"),
            ("x^2*z - y^2*z + x^2 - y^2", "x*z + y*z + x + y", "x - y"),
            ("y^6 - z^2", "y^3 - z", "y^3 + z"),
            ("x^6 - 1", "x^4 + x^2 + 1", "x^2 - 1"),
            ("y^4 - x^2", "y^2 - x", "y^2 + x"),
        ])

    def test_quotients_with_long_numbers(self):
        nines = "999999999999"
        self.hold([
            (nines, "1/" + nines, "999999999998000000000001"),
            (nines + "*x", "1/" + nines, "999999999998000000000001*x"),
            ("1/" + nines + "*x", "-" + nines + "*x", "-1/999999999998000000000001"),
            ("999999999999*x^2 - 999999999999", "1/999999999998*x - 1/999999999998",
             "999999999997000000000002*x + 999999999997000000000002"),
            ("x^2 + 111111111110*x - 111111111111", "x + 111111111111", "x - 1"),
        ])

    def test_numbers_of_the_quotient_that_p_has_not(self):
        powers = {tuple((letter, count) for letter, count in (("x", 7 - n), ("y", n)) if count): 30 ** n
                  for n in range(8)}
        self.hold([(f"x^8 - {30 ** 8}*y^8", "x - 30*y", write(powers))])

    def test_numbers_that_grow_though_q_does_not_go_in(self):
        for q in ("x - 999999999999*y", "x + 1/999999999999*y", "x - 999999999999*y - 999999999998*z - 999999999997"):
            self.assertEqual(over(codes("x^8"), codes(q)), [-5], q)

    def test_high_powers(self):
        for text in ("x + y + z", "x - 1", "a*b - 1/2", "x - y + 2"):
            for low in range(1, 4):
                top = to_power(read(text), 4)
                below = to_power(read(text), low)
                self.hold([(write(top), write(below), write(to_power(read(text), 4 - low)))])

    def test_the_largest(self):
        products = products_up_to(8, "xyz")
        many = {powers: 1 + place for place, powers in enumerate(products[-30:])}
        for factor in ("x", "y*z", "x^2*y*z", "-7/3*z^4"):
            top = times(many, read(factor))
            self.hold([(write(top), factor, write(many)), (write(top), write(many), factor)])

    def test_q_0(self):
        for p in ("0", "1", "-7/3", "x", "3/2*x^2*y - x + 1", "x^8"):
            with self.subTest(p=p):
                self.assertEqual(over(codes(p), codes("0")), [-3])

    def test_three_letters_together(self):
        self.hold([("x*y*z + x*y", "z + 1", "x*y"), ("x*y*z", "x*y*z", "1"), ("a^2*m*z", "a*z", "a*m")])
        self.assertEqual(over(codes("x*y"), codes("z")), [-5])
        for p, q in (("x*y", "w*z"), ("x*y*z", "w"), ("w", "x*y*z"), ("a + b", "c + d"), ("x^2*y*z", "w + x")):
            with self.subTest(p=p, q=q):
                self.assertEqual(over(codes(p), codes(q)), [-2])

    def test_the_refusal_told_first(self):
        for wrong in WRONG:
            for other in LARGE + WRONG + ["0", "1", "x", "y^2"]:
                with self.subTest(wrong=wrong, other=other):
                    self.assertEqual(over(codes(wrong), codes(other)), [-1])
                    self.assertEqual(over(codes(other), codes(wrong)), [-1])
        for large in LARGE:
            for other in LARGE + ["0", "1", "x", "y^2"]:
                with self.subTest(large=large, other=other):
                    self.assertEqual(over(codes(large), codes(other)), [-2])
                    self.assertEqual(over(codes(other), codes(large)), [-2])


if __name__ == "__main__":
    unittest.main()
