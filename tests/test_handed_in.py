"""Of all twelve calls: what is handed in stays as it is, nothing is kept, and how an answer is laid out as one list."""

import inspect
import unittest

from letteredsums import polynomials
from letteredsums.polynomials import (common, degree, over, parted, parts, plain, power, product, put, resultant, slope,
                                      sum_of)
from tests.helping import codes, laid_out, texts_in

TEXTS = ["3/2*x^2*y - x + 1", "-x", "0", "", "x + x", "x^9", "w*x*y*z", "y^4 - 1/2", "\xff", "-2/3*x^3*y + x^2*y"]


class Unchanging(list):
    """A list that can't be changed, not for a while either."""

    def refuse(self, *arguments, **more):
        raise AssertionError("what was handed in was changed")

    append = extend = insert = remove = pop = clear = sort = reverse = refuse
    __setitem__ = __delitem__ = __iadd__ = __imul__ = refuse


def calls_with(p, q):
    return [
        ("sum_of", lambda: sum_of(p, q)),
        ("product", lambda: product(p, q)),
        ("power", lambda: power(2, p)),
        ("power", lambda: power(13, p)),
        ("put", lambda: put(23, p, q)),
        ("put", lambda: put(26, p, q)),
        ("slope", lambda: slope(23, p)),
        ("slope", lambda: slope(26, p)),
        ("over", lambda: over(p, q)),
        ("over", lambda: over(q, p)),
        ("common", lambda: common(p, q)),
        ("resultant", lambda: resultant(23, p, q)),
        ("resultant", lambda: resultant(24, p, q)),
        ("resultant", lambda: resultant(26, p, q)),
        ("parted", lambda: parted(p)),
        ("parts", lambda: parts(23, p)),
        ("parts", lambda: parts(26, p)),
        ("plain", lambda: plain(p)),
        ("degree", lambda: degree(p)),
    ]


# Each call with the names of what it is handed, as the document tells them.
INTERFACE = {
    "sum_of": ["p", "q"],
    "product": ["p", "q"],
    "power": ["n", "p"],
    "put": ["letter", "p", "q"],
    "slope": ["letter", "p"],
    "over": ["p", "q"],
    "common": ["p", "q"],
    "resultant": ["letter", "p", "q"],
    "parted": ["p"],
    "parts": ["letter", "p"],
    "plain": ["p"],
    "degree": ["p"],
}

# Answers, spelled out: the number, then each text as how many bytes it has and these.
LAID_OUT = [
    (lambda: sum_of(codes("x"), codes("1")), [1, 5, 120, 32, 43, 32, 49]),
    (lambda: product(codes("x"), codes("-1")), [1, 2, 45, 120]),
    (lambda: power(2, codes("x")), [1, 3, 120, 94, 50]),
    (lambda: put(23, codes("x"), codes("y")), [1, 1, 121]),
    (lambda: slope(23, codes("x")), [1, 1, 49]),
    (lambda: over(codes("x"), codes("2")), [1, 5, 49, 47, 50, 42, 120]),
    (lambda: common(codes("-x"), codes("0")), [1, 1, 120]),
    (lambda: resultant(23, codes("x"), codes("x")), [1, 1, 48]),
    (lambda: parted(codes("-x^2")), [2, 2, 45, 49, 1, 49, 1, 120]),
    (lambda: parts(23, codes("x - 3")), [2, 2, 45, 51, 1, 49]),
    (lambda: plain(codes("-2*x")), [2, 2, 45, 50, 1, 120]),
    (lambda: degree(codes("x*y")), [2]),
]


def texts_told(name, number):
    """How many texts stand behind the number that is answered first."""
    return {"parted": number + 1, "parts": number, "plain": 2, "degree": 0}.get(name, 1)


def numbers_told(name):
    """Which numbers may be answered first."""
    return {"parted": range(7), "parts": range(1, 10), "plain": (2,), "degree": range(9)}.get(name, (1,))


class HandedIn(unittest.TestCase):
    def test_nothing_is_changed(self):
        for first in TEXTS:
            for second in TEXTS:
                p, q = codes(first), codes(second)
                for name, call in calls_with(p, q):
                    call()
                    self.assertEqual((p, q), (codes(first), codes(second)), name)

    def test_nothing_is_changed_for_a_while_either(self):
        for first in TEXTS:
            for second in TEXTS:
                for name, call in calls_with(Unchanging(codes(first)), Unchanging(codes(second))):
                    call()

    def test_one_list_as_both(self):
        p = codes("x - 1/2")
        self.assertEqual(sum_of(p, p), sum_of(list(p), list(p)))
        self.assertEqual(product(p, p), product(list(p), list(p)))
        self.assertEqual(put(23, p, p), put(23, list(p), list(p)))
        self.assertEqual(over(p, p), over(list(p), list(p)))
        self.assertEqual(common(p, p), common(list(p), list(p)))
        self.assertEqual(resultant(23, p, p), resultant(23, list(p), list(p)))
        self.assertEqual(p, codes("x - 1/2"))

    def test_a_second_call_answers_the_same(self):
        for first in TEXTS:
            for second in TEXTS:
                p, q = codes(first), codes(second)
                for name, call in calls_with(p, q):
                    answer = call()
                    kept = list(answer)
                    answer.append(7)
                    self.assertEqual(call(), kept, name)

    def test_calls_in_between_change_nothing(self):
        calls = [pair for first in TEXTS for second in TEXTS for pair in calls_with(codes(first), codes(second))]
        answers = [call() for name, call in calls]
        # The other way round, so that others were called ahead of each.
        for (name, call), answer in reversed(list(zip(calls, answers))):
            self.assertEqual(call(), answer, name)

    def test_answers_are_lists_of_whole_numbers(self):
        for first in TEXTS:
            for second in TEXTS:
                for name, call in calls_with(codes(first), codes(second)):
                    answer = call()
                    self.assertIs(type(answer), list)
                    self.assertTrue(all(type(number) is int for number in answer), name)
                    if answer[0] < 0:
                        self.assertEqual(len(answer), 1)
                    else:
                        self.hold_layout(name, answer)

    def hold_layout(self, name, answer):
        texts = texts_in(answer)
        self.assertEqual(answer, laid_out(answer[0], texts), name)
        self.assertEqual(len(texts), texts_told(name, answer[0]), name)
        self.assertIn(answer[0], numbers_told(name), name)

    def test_answers_spelled_out(self):
        self.assertEqual(len(LAID_OUT), len(INTERFACE))
        for (call, expected), name in zip(LAID_OUT, INTERFACE):
            with self.subTest(name=name):
                self.assertEqual(call(), expected)

    def test_the_interface(self):
        for name, handed in INTERFACE.items():
            with self.subTest(name=name):
                parameters = inspect.signature(getattr(polynomials, name)).parameters.values()
                self.assertEqual([parameter.name for parameter in parameters], handed)
                self.assertTrue(all(parameter.default is inspect.Parameter.empty for parameter in parameters))

    def test_each_call_is_among_those_called_here_and_answers_somewhere(self):
        answering = {name for first in TEXTS for second in TEXTS
                     for name, call in calls_with(codes(first), codes(second)) if call()[0] >= 0}
        self.assertEqual(answering, set(INTERFACE))


if __name__ == "__main__":
    unittest.main()
