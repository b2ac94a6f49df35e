"""The bounds of -2, each at the last size that is allowed and the first that isn't, at every place."""

import unittest

from letteredsums.polynomials import common, over, product, put, resultant, sum_of
from tests.helping import codes, highest_at, places, products_up_to, write

MANY = products_up_to(4, "xyz")


def with_products(count):
    return write({powers: 1 for powers in MANY[:count]})


# Pairs: a text that is just small enough, one that is just too large.
EDGES = {
    "products": [
        (with_products(30), with_products(31)),
    ],
    "letters": [
        ("x*y*z", "w*x*y*z"),
        ("x + y + z", "w + x + y + z"),
        ("a*b*c", "a*b*c*d"),
        ("a*z + m", "a*z + m + n"),
        ("2*a*b + c", "2*a*b + c*d"),
    ],
    "first whole number": [
        ("999999999999", "1000000000000"),
        ("-999999999999", "-1000000000000"),
        ("999999999999*x", "1000000000000*x"),
        ("x^2 - 100000000000*x + 1", "x^2 - 1000000000000*x + 1"),
        ("x + 999999999999/2", "x + 1000000000001/2"),
        ("999999999999", "9" * 1400),
    ],
    "second whole number": [
        ("1/999999999999", "1/1000000000000"),
        ("-1/999999999999", "-1/1000000000000"),
        ("1/999999999999*x", "1/1000000000000*x"),
        ("x^2 - 3/100000000000*x + 1", "x^2 - 3/1000000000000*x + 1"),
        ("x + 2/999999999999", "x + 7/1000000000000"),
        ("1/999999999999", "1/" + "9" * 1398),
    ],
    "both whole numbers": [
        ("999999999999/999999999998", "1000000000001/1000000000000"),
        ("999999999998/999999999999*x - 999999999997/999999999998",
         "999999999998/999999999999*x - 999999999997/1000000000000"),
    ],
}

DEGREES = {
    8: [
        ("x^8", "x^9"),
        ("-x^8 + y", "-x^9 + y"),
        ("x^4*y^4", "x^4*y^5"),
        ("x^3*y^3*z^2", "x^3*y^3*z^3"),
        ("a^8", "a^10"),
        ("z^8", "z^" + "9" * 1000),
    ],
    6: [
        ("x^6", "x^7"),
        ("-x^6 + y", "-x^7 + y"),
        ("x^2*y^4", "x^3*y^4"),
        ("x^2*y^2*z^2", "x^2*y^2*z^3"),
        ("a^6", "a^8"),
        ("z^6", "z^" + "9" * 1000),
        ("x^3*y^3 + x*y + 1", "x^4*y^3 + x*y + 1"),
    ],
    5: [
        ("x^5", "x^6"),
        ("-x^5 + y", "-x^6 + y"),
        ("x*y^4", "x^2*y^4"),
        ("x^2*y^2*z", "x^2*y^2*z^2"),
        ("a^5", "a^8"),
        ("z^5", "z^" + "9" * 1000),
        ("x^3*y^2 + x*y + 1", "x^3*y^3 + x*y + 1"),
    ],
}

FAR_TOO_LARGE = [
    write({powers: 1 for powers in products_up_to(7, "xyz")}),
    " + ".join("abcdefghijklmnopqrstuvwxyz"),
    "*".join("abcdefghijklmnopqrstuvwxyz"),
    "x^4294967296",
    "9" * 699 + "/1" + "0" * 699,
]

TOGETHER = [
    ("x + y", "z", True),
    ("x", "y + z", True),
    ("x*y*z", "x + y + z", True),
    ("x*y*z", "0", True),
    ("a*b", "b*c", True),
    ("x + y", "w + z", False),
    ("x", "a*b*c", False),
    ("x*y*z", "w", False),
    ("a*b", "c*d", False),
    ("a + b + c", "b + c + d", False),
]


class Bounds(unittest.TestCase):
    def test_edges(self):
        for name, call, expected in places("2"):
            for bound, pairs in list(EDGES.items()) + [("degree", DEGREES[highest_at(name)])]:
                for small, large in pairs:
                    with self.subTest(place=name, bound=bound, small=small[:40]):
                        self.assertNotIn(expected(small)[0], (-1, -2, -4))
                        self.assertEqual(call(codes(small)), expected(small))
                    with self.subTest(place=name, bound=bound, large=large[:40]):
                        self.assertEqual(call(codes(large)), [-2])

    def test_far_too_large(self):
        for name, call, expected in places("2"):
            for text in FAR_TOO_LARGE:
                with self.subTest(place=name, text=text[:40]):
                    self.assertLessEqual(len(text), 1400)
                    self.assertEqual(call(codes(text)), [-2])

    def test_letters_together(self):
        calls = (sum_of, product, lambda p, q: put(23, p, q), over, common, lambda p, q: resultant(23, p, q))
        for p, q, fits in TOGETHER:
            for call in calls:
                with self.subTest(p=p, q=q):
                    for answer in (call(codes(p), codes(q)), call(codes(q), codes(p))):
                        if fits:
                            self.assertIn(answer[0], (1, -3, -5))
                        else:
                            self.assertEqual(answer, [-2])

    def test_the_refusal_told_first(self):
        wrong, large, fine = codes("x + x"), codes("x^9"), codes("x")
        for call in (sum_of, product, over, common):
            for p, q in ((wrong, fine), (fine, wrong), (wrong, large), (large, wrong), (wrong, wrong)):
                self.assertEqual(call(p, q), [-1])
            for p, q in ((large, fine), (fine, large), (large, large)):
                self.assertEqual(call(p, q), [-2])

    def test_a_text_both_wrong_and_too_large_is_wrong(self):
        texts = ["x^9 + 1*y", "01000000000000", "a*b*c*d + 0", "2000000000000/4000000000000", "x + y^9",
                 with_products(31) + " + x^4", "1/" + "0" * 1300, "6" * 600 + "/" + "3" * 600, "x^" + "0" * 1000 + "9"]
        for name, call, expected in places("x^9 + w"):
            for text in texts:
                with self.subTest(place=name, text=text[:40]):
                    self.assertEqual(call(codes(text)), [-1])


if __name__ == "__main__":
    unittest.main()
