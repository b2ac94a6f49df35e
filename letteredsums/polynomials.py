"""The calls: each takes texts as lists of bytes and answers one list of whole numbers."""

from letteredsums.bounds import NOTHING, refusal_of_polynomials
from letteredsums.reading import polynomial_of
from letteredsums.reckoning import added, multiplied
from letteredsums.writing import text_of


def sum_of(p, q):
    """1, then p + q."""
    first = polynomial_of(p)
    second = polynomial_of(q)
    refusal = refusal_of_polynomials([first, second])
    if refusal != NOTHING:
        return [refusal]
    return answer(1, [added(first, second)])


def product(p, q):
    """1, then p times q."""
    first = polynomial_of(p)
    second = polynomial_of(q)
    refusal = refusal_of_polynomials([first, second])
    if refusal != NOTHING:
        return [refusal]
    return answer(1, [multiplied(first, second)])


def answer(number, polynomials):
    """The number, then each polynomial's text: how many bytes it has, then these."""
    told = [number]
    for polynomial in polynomials:
        text = text_of(polynomial)
        told.append(len(text))
        told.extend([ord(sign) for sign in text])
    return told
