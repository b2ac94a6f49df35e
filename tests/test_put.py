import unittest

from letteredsums.polynomials import put
from tests.helping import answered, codes

A, B, X, Y, Z = 0, 1, 23, 24, 25

PUTS = [
    (X, "3/2*x^2*y - x + 1", "-x", "3/2*x^2*y + x + 1"),
    (X, "3/2*x^2*y - x + 1", "7", "147/2*y - 6"),
    (X, "3/2*x^2*y - x + 1", "0", "1"),
    (X, "3/2*x^2*y - x + 1", "x", "3/2*x^2*y - x + 1"),
    (Y, "3/2*x^2*y - x + 1", "2/3", "x^2 - x + 1"),
    (Y, "3/2*x^2*y - x + 1", "0", "-x + 1"),
    (Z, "3/2*x^2*y - x + 1", "0", "3/2*x^2*y - x + 1"),
    (Z, "3/2*x^2*y - x + 1", "z + 1", "3/2*x^2*y - x + 1"),
    (A, "x", "a", "x"),
    (X, "x", "a", "a"),
    (Z, "a*z", "a", "a^2"),
    (A, "a^8 + z", "2", "z + 256"),
    (X, "0", "x + y", "0"),
    (X, "0", "0", "0"),
    (X, "7", "x^8", "7"),
    (X, "-7", "0", "-7"),
    (X, "x", "0", "0"),
    (X, "x^2 - 1", "1", "0"),
    (X, "x^2 - 2*x", "x + 1", "x^2 - 1"),
    (X, "x^2", "x + y", "x^2 + 2*x*y + y^2"),
    (X, "x + y", "-y", "0"),
    (X, "x*y", "y", "y^2"),
    (X, "x^2 - y^2", "y + 1", "2*y + 1"),
    (X, "x^3 + x^2*y + x*y^2 + y^3", "y", "4*y^3"),
    (X, "x^3 + x", "1/2*y", "1/8*y^3 + 1/2*y"),
    (X, "1/3*x^2 + 1/5", "1/2*y - 1/7", "1/12*y^2 - 1/21*y + 152/735"),
    (Y, "x*y*z", "x*z", "x^2*z^2"),
    (B, "a + b + c", "a - c", "2*a"),
    (X, "x^4", "y^3", "y^12"),
    (X, "x^8", "y + 1", "y^8 + 8*y^7 + 28*y^6 + 56*y^5 + 70*y^4 + 56*y^3 + 28*y^2 + 8*y + 1"),
    (X, "x^8", "1/2", "1/256"),
    (X, "x + 1", "y^8", "y^8 + 1"),
]


class Put(unittest.TestCase):
    def test_ordinary(self):
        for letter, p, q, result in PUTS:
            with self.subTest(letter=letter, p=p, q=q):
                self.assertEqual(put(letter, codes(p), codes(q)), answered(result))

    def test_long_numbers(self):
        self.assertEqual(put(X, codes("x^8"), codes("999999999999")), answered(str(999999999999 ** 8)))
        self.assertEqual(put(X, codes("1/100000000000*x^8"), codes("1/100000000000*x")),
                         answered("1/1" + "0" * 99 + "*x^8"))

    def test_the_degrees_product_at_most_12(self):
        for p, q in (("x^4", "y^3"), ("x^3", "y^4"), ("x^6", "y^2"), ("x^2", "y^6"), ("x*y", "y^3*z^3"), ("x^8", "y"),
                     ("x", "y^8"), ("x^8", "7"), ("7", "y^8"), ("0", "y^8"), ("x^8", "0")):
            with self.subTest(p=p, q=q):
                self.assertEqual(put(X, codes(p), codes(q))[0], 1)
        for p, q in (("x^4", "y^4"), ("x^7", "y^2"), ("x^2", "y^7"), ("x^5", "y^3"), ("x^3", "y^5"), ("x^8", "y^8"),
                     ("x*y", "y^3*z^4"), ("x^2*y^2*z^3 - x", "y*z")):
            with self.subTest(p=p, q=q):
                self.assertEqual(put(X, codes(p), codes(q)), [-2])

    def test_the_degrees_count_though_the_letter_is_not_there(self):
        self.assertEqual(put(Z, codes("x^7"), codes("y^2")), [-2])
        self.assertEqual(put(Y, codes("x^7*y"), codes("y^2")), [-2])

    def test_the_letter(self):
        self.assertEqual(put(25, codes("z"), codes("7")), answered("7"))
        self.assertEqual(put(0, codes("a"), codes("7")), answered("7"))
        for letter in (26, 27, 256, 4294967295):
            with self.subTest(letter=letter):
                self.assertEqual(put(letter, codes("x"), codes("7")), [-4])

    def test_the_letter_is_not_counted_with_those_of_p_and_q(self):
        self.assertEqual(put(A, codes("x*y"), codes("z")), answered("x*y"))

    def test_the_refusal_told_first(self):
        wrong, large, fine = codes("x + x"), codes("x^9"), codes("x")
        for p in (wrong, large, fine):
            for q in (wrong, large, fine):
                self.assertEqual(put(26, p, q), [-4])
                self.assertEqual(put(4294967295, p, q), [-4])
        for p, q in ((wrong, fine), (fine, wrong), (wrong, large), (large, wrong), (wrong, wrong)):
            self.assertEqual(put(X, p, q), [-1])
        for p, q in ((large, fine), (fine, large), (large, large)):
            self.assertEqual(put(X, p, q), [-2])


if __name__ == "__main__":
    unittest.main()
