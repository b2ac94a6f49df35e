"""The calls: each takes texts as lists of bytes and answers one list of whole numbers."""

from letteredsums.bounds import NOTHING, refusal_of_polynomials, refusal_of_power, refusal_of_put
from letteredsums.reading import polynomial_of
from letteredsums.reckoning import added, multiplied, raised, replaced
from letteredsums.writing import text_of


def sum_of(p, q):
    """1, then p + q."""
    first = polynomial_of(p)
    second = polynomial_of(q)
    refusal = refusal_of_polynomials([first, second])
    if refusal != NOTHING:
        return [refusal]
    return answer(1, [added(first, second)])


def product(p, q):
    """1, then p times q."""
    first = polynomial_of(p)
    second = polynomial_of(q)
    refusal = refusal_of_polynomials([first, second])
    if refusal != NOTHING:
        return [refusal]
    return answer(1, [multiplied(first, second)])


def power(n, p):
    """1, then p to the n-th power."""
    base = polynomial_of(p)
    refusal = refusal_of_power(n, base)
    if refusal != NOTHING:
        return [refusal]
    return answer(1, [raised(base, n)])


def put(letter, p, q):
    """1, then p with q in place of the letter."""
    outer = polynomial_of(p)
    inner = polynomial_of(q)
    refusal = refusal_of_put(letter, outer, inner)
    if refusal != NOTHING:
        return [refusal]
    return answer(1, [replaced(letter, outer, inner)])


def answer(number, polynomials):
    """The number, then each polynomial's text: how many bytes it has, then these."""
    told = [number]
    for polynomial in polynomials:
        text = text_of(polynomial)
        told.append(len(text))
        told.extend([ord(sign) for sign in text])
    return told
