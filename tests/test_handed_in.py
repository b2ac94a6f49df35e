"""What is handed in stays as it is, nothing is kept, and answers are lists of whole numbers."""

import unittest

from letteredsums.polynomials import common, over, parted, parts, power, product, put, resultant, slope, sum_of
from tests.helping import codes, laid_out, texts_in

TEXTS = ["3/2*x^2*y - x + 1", "-x", "0", "", "x + x", "x^9", "w*x*y*z", "y^4 - 1/2", "\xff", "-2/3*x^3*y + x^2*y"]


class Unchanging(list):
    """A list that can't be changed, not for a while either."""

    def refuse(self, *arguments, **more):
        raise AssertionError("what was handed in was changed")

    append = extend = insert = remove = pop = clear = sort = reverse = refuse
    __setitem__ = __delitem__ = __iadd__ = __imul__ = refuse


def calls_with(p, q):
    return [
        ("sum_of", lambda: sum_of(p, q)),
        ("product", lambda: product(p, q)),
        ("power", lambda: power(2, p)),
        ("power", lambda: power(13, p)),
        ("put", lambda: put(23, p, q)),
        ("put", lambda: put(26, p, q)),
        ("slope", lambda: slope(23, p)),
        ("slope", lambda: slope(26, p)),
        ("over", lambda: over(p, q)),
        ("over", lambda: over(q, p)),
        ("common", lambda: common(p, q)),
        ("resultant", lambda: resultant(23, p, q)),
        ("resultant", lambda: resultant(24, p, q)),
        ("resultant", lambda: resultant(26, p, q)),
        ("parted", lambda: parted(p)),
        ("parts", lambda: parts(23, p)),
        ("parts", lambda: parts(26, p)),
    ]


def texts_told(name, number):
    """How many texts stand behind the number that is answered first."""
    return {"parted": number + 1, "parts": number}.get(name, 1)


class HandedIn(unittest.TestCase):
    def test_nothing_is_changed(self):
        for first in TEXTS:
            for second in TEXTS:
                p, q = codes(first), codes(second)
                for name, call in calls_with(p, q):
                    call()
                    self.assertEqual((p, q), (codes(first), codes(second)), name)

    def test_nothing_is_changed_for_a_while_either(self):
        for first in TEXTS:
            for second in TEXTS:
                for name, call in calls_with(Unchanging(codes(first)), Unchanging(codes(second))):
                    call()

    def test_one_list_as_both(self):
        p = codes("x - 1/2")
        self.assertEqual(sum_of(p, p), sum_of(list(p), list(p)))
        self.assertEqual(product(p, p), product(list(p), list(p)))
        self.assertEqual(put(23, p, p), put(23, list(p), list(p)))
        self.assertEqual(over(p, p), over(list(p), list(p)))
        self.assertEqual(common(p, p), common(list(p), list(p)))
        self.assertEqual(resultant(23, p, p), resultant(23, list(p), list(p)))
        self.assertEqual(p, codes("x - 1/2"))

    def test_nothing_is_kept(self):
        p, q = codes("3/2*x^2*y - x + 1"), codes("-x")
        for name, call in calls_with(p, q):
            first = call()
            kept = list(first)
            first.append(7)
            sum_of(codes("x + x"), codes("y"))
            self.assertEqual(call(), kept, name)

    def test_answers_are_lists_of_whole_numbers(self):
        for first in TEXTS:
            for second in TEXTS:
                for name, call in calls_with(codes(first), codes(second)):
                    answer = call()
                    self.assertIs(type(answer), list)
                    self.assertTrue(all(type(number) is int for number in answer), name)
                    if answer[0] < 0:
                        self.assertEqual(len(answer), 1)
                    else:
                        self.hold_layout(name, answer)

    def hold_layout(self, name, answer):
        texts = texts_in(answer)
        self.assertEqual(answer, laid_out(answer[0], texts), name)
        self.assertEqual(len(texts), texts_told(name, answer[0]), name)
        if name not in ("parted", "parts"):
            self.assertEqual(answer[0], 1, name)


if __name__ == "__main__":
    unittest.main()
