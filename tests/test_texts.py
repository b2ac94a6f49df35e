"""Which texts are a polynomial's: at every place where one is handed over."""

import unittest

from tests.helping import answered, codes, degree_of, highest_at, places, read, sum_of, write

NOT_TEXTS = {
    "nothing": ["", " "],
    "zeros before a number": ["00", "07", "007*x", "01/2", "1/02", "x + 01", "x^02", "x^002", "0x", "-01"],
    "a fraction that is not in lowest terms": ["2/4", "4/2", "6/9*x", "x - 10/15", "0/2", "0/7*x", "3/3", "0/0",
                                               "1000000000000000000000/500000000000000000000"],
    "1 or 0 below": ["1/1", "7/1", "7/1*x", "0/1", "1/0", "7/0*x", "x + 2/1", "x + 2/0"],
    "a fraction that is not whole": ["/", "/2", "1/", "1/2/3", "1/-2", "-/2", "1/x", "1//2", "x/2", "1/*x", "1/2x"],
    "a written 1 before letters": ["1*x", "-1*x", "x^2 + 1*x", "x^2 - 1*x", "1*x*y"],
    "^1 and ^0": ["x^1", "x^0", "7*x^1", "2*x^0", "x^1*y", "x*y^1", "x*y^0", "x^2 + x^1", "x + y^0"],
    "^ with no number": ["x^", "x^*y", "x^ 2", "x ^2", "x^-2", "x^y", "x^1/2", "^2", "2^3", "x^2^3", "x^+2", "x^^2"],
    "letters not rising or twice": ["y*x", "b*a", "x^2*a", "2*z*a", "x*x", "x^2*x", "x*x^2", "x*y*x", "a*b*b"],
    "* at the wrong place": ["*", "*x", "x*", "2*", "2**x", "x**y", "2*3", "2*3*x", "x*2", "x*2*y", "2x", "xy", "2 * x",
                             "x *y", "x* y", "1/2*", "1/2*3", "x + *y", "x*-y", "x*1"],
    "products not in order": ["1 + x", "x + x^2", "y + x", "b + a", "y^2 + x*y", "x*y + x^2", "x + y + x^2",
                              "x + 1 + y", "x*y^2 + x^2*y", "b^2 + a*c", "z + a", "x^2 + 1 + x", "x^9 + x^10"],
    "products twice": ["x + x", "x - x", "2*x + 3*x", "1 + 1", "7 - 7", "x*y + x*y", "x^2 + x + x", "x + 1 + 1"],
    "the number 0": ["-0", "0*x", "-0*x", "x + 0", "x - 0", "x^2 + 0*x", "0 + x", "0 + 0", "0*x + 1", "x + 0*y + 1"],
    "blanks missing or too many": ["x+1", "x +1", "x+ 1", "x-1", "x -1", "x- 1", " x", "x ", "x  + 1", "x +  1",
                                   "x + 1 ", " x + 1", "x 1", "x y", "x + 1  ", "7 ", " 0", "0 ", "1 / 2", "x  ", "  ",
                                   "x +1 +1", "x y z"],
    "a sign at the wrong place": ["+", "-", "+x", "+7", "+0", "- x", "+ x", "--x", "x + -1", "x - -1", "x + +1", "x +",
                                  "x + ", "x -", "x - ", "-", "- ", "-x +", "x + + 1", "x - - 1", "x + - 1", "x-", "7-",
                                  "x * 1", "x / 2", " - x", " + x", "x + 1 +", "-+x", "+-x", "-x + -y", "x x y"],
    "signs of no text": ["X", "x\n", "\n", "x\t+ 1", "x = 1", "(x)", "x.y", "1.5", "1,5", "x_y", "x\0", "\0", "\xff",
                         "\x80", "\xe4", "x\xa0+ 1", "\xb2", "x^\xb2", "\xb9*x", "x\x7f", "`", "{", "@", "[", "\x1f",
                         "!", ":", "1:2", "x;", "x & y", "'x'", "#", "x%y", "~", "1e5", "x^2 \xb1 1", "\xd7"],
}

TEXTS = ["3/2*x^2*y - x + 1", "-x", "7", "0", "1", "-1", "x", "-7", "10", "1/2", "-1/2", "1/10", "10/3", "x^2", "x^8",
         "-x + 1", "-x - 1", "x - 1", "2*x", "-2*x", "1/2*x", "-1/2*x*y", "x*y", "x^2*y", "x*y^2", "x^2 + x*y + y^2",
         "x^2 + x + 1", "y^2 + x", "x^3*y - x^2*y^2 + x*y^3 - 1/999999999999", "a", "z", "x + y + z",
         "a^2 + z^2 + a + z", "a*z + m^2", "x*z + y^2", "x*y*z + 1"]


class Texts(unittest.TestCase):
    def test_what_is_not_a_polynomials_text(self):
        for other in ("x", "0"):
            for name, call, expected in places(other):
                for kind, texts in NOT_TEXTS.items():
                    for text in texts:
                        with self.subTest(place=name, kind=kind, text=text):
                            self.assertEqual(call(codes(text)), [-1])

    def test_what_is_one(self):
        for name, call, expected in places("2"):
            for text in TEXTS:
                with self.subTest(place=name, text=text):
                    self.assertNotIn(expected(text)[0], (-1, -4))
                    self.assertEqual(expected(text) == [-2], degree_of(read(text)) > highest_at(name))
                    self.assertEqual(call(codes(text)), expected(text))

    def test_each_one_stays_as_it_is(self):
        for text in TEXTS:
            self.assertEqual(sum_of(codes(text), codes("0")), answered(text))

    def test_every_byte_alone_and_behind_a_letter(self):
        for code in range(256):
            alone = chr(code)
            behind = "x" + alone
            for text in (alone, behind):
                fits = read(text) is not None
                self.assertEqual(sum_of(codes(text), codes("0")), answered(text) if fits else [-1], text)

    def test_the_tests_second_way_agrees(self):
        for texts in NOT_TEXTS.values():
            for text in texts:
                self.assertIsNone(read(text), text)
        for text in TEXTS:
            self.assertEqual(write(read(text)), text)


if __name__ == "__main__":
    unittest.main()
