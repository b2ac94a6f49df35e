import unittest

from letteredsums.polynomials import sum_of
from tests.helping import answered, codes, products_up_to, write

SUMS = [
    ("3/2*x^2*y - x + 1", "0", "3/2*x^2*y - x + 1"),
    ("0", "3/2*x^2*y - x + 1", "3/2*x^2*y - x + 1"),
    ("3/2*x^2*y - x + 1", "-x", "3/2*x^2*y - 2*x + 1"),
    ("3/2*x^2*y - x + 1", "7", "3/2*x^2*y - x + 8"),
    ("-x", "7", "-x + 7"),
    ("-x", "-x", "-2*x"),
    ("0", "0", "0"),
    ("7", "0", "7"),
    ("7", "-7", "0"),
    ("1", "-1/2", "1/2"),
    ("-1", "0", "-1"),
    ("1/2", "1/2", "1"),
    ("1/2*x", "1/2*x", "x"),
    ("-1/3*x", "-2/3*x", "-x"),
    ("1/6", "1/10", "4/15"),
    ("1/6*x + 1/4", "1/10*x - 1/4", "4/15*x"),
    ("x", "-x", "0"),
    ("x + 1", "-x", "1"),
    ("x + y", "-x + y", "2*y"),
    ("x^2 + x + 1", "-x^2 - 1", "x"),
    ("3/2*x^2*y - x + 1", "-3/2*x^2*y + x - 1", "0"),
    ("3/2*x^2*y - x + 1", "-3/2*x^2*y + x", "1"),
    ("b", "a", "a + b"),
    ("z", "a^2", "a^2 + z"),
    ("a*c", "b^2", "a*c + b^2"),
    ("b^2", "a^2 + a*b", "a^2 + a*b + b^2"),
    ("x*y^2", "x^3 + x^2*y", "x^3 + x^2*y + x*y^2"),
    ("y^8", "x^8 + x^4*y^4", "x^8 + x^4*y^4 + y^8"),
    ("a*z", "m^2 + 5", "a*z + m^2 + 5"),
]


class SumOf(unittest.TestCase):
    def test_ordinary(self):
        for p, q, result in SUMS:
            with self.subTest(p=p, q=q):
                self.assertEqual(sum_of(codes(p), codes(q)), answered(result))
                self.assertEqual(sum_of(codes(q), codes(p)), answered(result))

    def test_the_layout_of_an_answer(self):
        self.assertEqual(sum_of([120], [45, 49]), [1, 5, 120, 32, 45, 32, 49])
        self.assertEqual(sum_of([120], [45, 120]), [1, 1, 48])

    def test_numbers_longer_than_may_be_handed_over(self):
        nines = "999999999999"
        self.assertEqual(sum_of(codes(nines), codes("1")), answered("1000000000000"))
        self.assertEqual(sum_of(codes("-" + nines + "*x"), codes("-" + nines + "*x")), answered("-1999999999998*x"))
        self.assertEqual(sum_of(codes("1/999999999999"), codes("1/999999999998")),
                         answered("1999999999997/999999999997000000000002"))

    def test_more_products_than_may_be_handed_over(self):
        products = products_up_to(6, "xyz")
        p = write({product: 1 for product in products[:30]})
        q = write({product: 1 for product in products[30:60]})
        both = write({product: 1 for product in products[:60]})
        self.assertEqual(sum_of(codes(p), codes(q)), answered(both))


if __name__ == "__main__":
    unittest.main()
