import unittest

from letteredsums.polynomials import product
from tests.helping import answered, codes, expected_product, products_up_to, write

PRODUCTS = [
    ("3/2*x^2*y - x + 1", "0", "0"),
    ("3/2*x^2*y - x + 1", "-x", "-3/2*x^3*y + x^2 - x"),
    ("3/2*x^2*y - x + 1", "7", "21/2*x^2*y - 7*x + 7"),
    ("3/2*x^2*y - x + 1", "1", "3/2*x^2*y - x + 1"),
    ("3/2*x^2*y - x + 1", "2/3", "x^2*y - 2/3*x + 2/3"),
    ("-x", "7", "-7*x"),
    ("-x", "-x", "x^2"),
    ("0", "0", "0"),
    ("7", "0", "0"),
    ("7", "7", "49"),
    ("7", "1/7", "1"),
    ("-7", "1/7", "-1"),
    ("2/3", "3/4", "1/2"),
    ("1/2*x", "2*y", "x*y"),
    ("x + y", "x - y", "x^2 - y^2"),
    ("x - y", "x^2 + x*y + y^2", "x^3 - y^3"),
    ("x^2 + 2*x + 2", "x^2 - 2*x + 2", "x^4 + 4"),
    ("x + 1", "x + 1", "x^2 + 2*x + 1"),
    ("a*c", "b", "a*b*c"),
    ("z", "a*z^2", "a*z^3"),
    ("y^2 + z", "a", "a*y^2 + a*z"),
]


class Product(unittest.TestCase):
    def test_ordinary(self):
        for p, q, result in PRODUCTS:
            with self.subTest(p=p, q=q):
                self.assertEqual(product(codes(p), codes(q)), answered(result))
                self.assertEqual(product(codes(q), codes(p)), answered(result))

    def test_numbers_longer_than_may_be_handed_over(self):
        nines = codes("999999999999")
        self.assertEqual(product(nines, nines), answered("999999999998000000000001"))
        self.assertEqual(product(codes("1/999999999999*x"), codes("-1/999999999999")),
                         answered("-1/999999999998000000000001*x"))
        self.assertEqual(product(codes("100000000000"), codes("100000000000*x")),
                         answered("10000000000000000000000*x"))

    def test_degree_higher_than_may_be_handed_over(self):
        self.assertEqual(product(codes("x^8"), codes("x^8 - 1")), answered("x^16 - x^8"))
        self.assertEqual(product(codes("x^4*y^4"), codes("y^4*z^4")), answered("x^4*y^8*z^4"))

    def test_more_products_than_may_be_handed_over(self):
        p = write({powers: 1 for powers in products_up_to(8, "xyz")[:30]})
        q = write({powers: 1 for powers in products_up_to(4, "xyz")[5:]})
        expected = expected_product(p, q)
        self.assertGreater(bytes(expected[2:]).count(b" + "), 60)
        self.assertEqual(product(codes(p), codes(q)), expected)


if __name__ == "__main__":
    unittest.main()
