import unittest

from letteredsums.polynomials import power
from tests.helping import answered, codes

POWERS = [
    (0, "0", "1"),
    (0, "7", "1"),
    (0, "x", "1"),
    (0, "3/2*x^2*y - x + 1", "1"),
    (0, "x^8", "1"),
    (1, "0", "0"),
    (1, "7", "7"),
    (1, "-x", "-x"),
    (1, "3/2*x^2*y - x + 1", "3/2*x^2*y - x + 1"),
    (1, "x^8 - y^8", "x^8 - y^8"),
    (2, "-x", "x^2"),
    (3, "-x", "-x^3"),
    (2, "x + y", "x^2 + 2*x*y + y^2"),
    (3, "x - 1/2", "x^3 - 3/2*x^2 + 3/4*x - 1/8"),
    (2, "3/2*x^2*y - x + 1", "9/4*x^4*y^2 - 3*x^3*y + 3*x^2*y + x^2 - 2*x + 1"),
    (5, "-2/3", "-32/243"),
    (2, "a*b - c", "a^2*b^2 - 2*a*b*c + c^2"),
    (12, "0", "0"),
    (12, "1", "1"),
    (12, "-1", "1"),
    (12, "2", "4096"),
    (12, "-1/2", "1/4096"),
    (12, "x", "x^12"),
    (12, "x + 1", "x^12 + 12*x^11 + 66*x^10 + 220*x^9 + 495*x^8 + 792*x^7 + 924*x^6 + 792*x^5 + 495*x^4"
                  " + 220*x^3 + 66*x^2 + 12*x + 1"),
]


class Power(unittest.TestCase):
    def test_ordinary(self):
        for n, p, result in POWERS:
            with self.subTest(n=n, p=p):
                self.assertEqual(power(n, codes(p)), answered(result))

    def test_long_numbers(self):
        self.assertEqual(power(12, codes("999999999999")), answered(str(999999999999 ** 12)))
        self.assertEqual(power(12, codes("100000000000")), answered("1" + "0" * 132))
        self.assertEqual(power(11, codes("-100000000000/999999999999")),
                         answered("-1" + "0" * 121 + "/" + str(999999999999 ** 11)))

    def test_n_at_most_12(self):
        for p in ("0", "1", "7", "-1/2", "x", "3/2*x^2*y - x + 1"):
            for n in (13, 14, 256, 4294967295):
                with self.subTest(n=n, p=p):
                    self.assertEqual(power(n, codes(p)), [-2])

    def test_n_times_the_degree_at_most_12(self):
        for n, p in ((12, "y"), (6, "y^2"), (6, "x*y"), (4, "x^3"), (3, "x^4"), (3, "x^2*y*z"), (2, "x^6"), (1, "x^8")):
            with self.subTest(n=n, p=p):
                self.assertEqual(power(n, codes(p))[0], 1)
        for n, p in ((7, "y^2"), (7, "x*y"), (12, "x^2 + 1"), (5, "x^3"), (4, "x^4"), (4, "x^2*y*z"), (3, "x^5"),
                     (2, "x^7"), (2, "x^3*y^4 + x"), (2, "x^8")):
            with self.subTest(n=n, p=p):
                self.assertEqual(power(n, codes(p)), [-2])

    def test_the_refusal_told_first(self):
        for n in (0, 1, 12, 13, 4294967295):
            for p in ("", "x + x", "x^1", "x^9 + 1*y"):
                with self.subTest(n=n, p=p):
                    self.assertEqual(power(n, codes(p)), [-1])
        for n in (0, 1, 13):
            for p in ("x^9", "a + b + c + d", "1000000000000"):
                with self.subTest(n=n, p=p):
                    self.assertEqual(power(n, codes(p)), [-2])


if __name__ == "__main__":
    unittest.main()
