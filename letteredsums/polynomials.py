"""The calls: each takes texts as lists of bytes and answers one list of whole numbers."""

from letteredsums.bounds import DOES_NOT_GO_IN, NOTHING
from letteredsums.bounds import refusal_of_common, refusal_of_over, refusal_of_parted, refusal_of_plain
from letteredsums.bounds import refusal_of_polynomials, refusal_of_power, refusal_of_put, refusal_of_resultant
from letteredsums.bounds import refusal_with_letter
from letteredsums.dividing import divided, number_out_front, plain_form
from letteredsums.forms import degree_of, parts_by
from letteredsums.parting import taken_apart
from letteredsums.reading import polynomial_of
from letteredsums.reckoning import added, multiplied, raised, replaced, sloped
from letteredsums.sharing import common_of
from letteredsums.tables import determinant, table_of
from letteredsums.writing import text_of


def sum_of(p, q):
    """1, then p + q."""
    first = polynomial_of(p)
    second = polynomial_of(q)
    refusal = refusal_of_polynomials([first, second])
    if refusal != NOTHING:
        return [refusal]
    return answer(1, [added(first, second)])


def product(p, q):
    """1, then p times q."""
    first = polynomial_of(p)
    second = polynomial_of(q)
    refusal = refusal_of_polynomials([first, second])
    if refusal != NOTHING:
        return [refusal]
    return answer(1, [multiplied(first, second)])


def power(n, p):
    """1, then p to the n-th power."""
    base = polynomial_of(p)
    refusal = refusal_of_power(n, base)
    if refusal != NOTHING:
        return [refusal]
    return answer(1, [raised(base, n)])


def put(letter, p, q):
    """1, then p with q in place of the letter."""
    outer = polynomial_of(p)
    inner = polynomial_of(q)
    refusal = refusal_of_put(letter, outer, inner)
    if refusal != NOTHING:
        return [refusal]
    return answer(1, [replaced(letter, outer, inner)])


def slope(letter, p):
    """1, then the slope of p by the letter."""
    polynomial = polynomial_of(p)
    refusal = refusal_with_letter(letter, polynomial)
    if refusal != NOTHING:
        return [refusal]
    return answer(1, [sloped(letter, polynomial)])


def over(p, q):
    """1, then the quotient of p by q."""
    polynomial = polynomial_of(p)
    divisor = polynomial_of(q)
    refusal = refusal_of_over(polynomial, divisor)
    if refusal != NOTHING:
        return [refusal]
    quotient = divided(polynomial, divisor)
    if quotient is None:
        return [DOES_NOT_GO_IN]
    return answer(1, [quotient])


def common(p, q):
    """1, then what p and q have in common, in plain form."""
    first = polynomial_of(p)
    second = polynomial_of(q)
    refusal = refusal_of_common(first, second)
    if refusal != NOTHING:
        return [refusal]
    return answer(1, [common_of(first, second)])


def resultant(letter, p, q):
    """1, then the determinant of p's and q's table by the letter."""
    first = polynomial_of(p)
    second = polynomial_of(q)
    refusal = refusal_of_resultant(letter, first, second)
    if refusal != NOTHING:
        return [refusal]
    return answer(1, [determinant(table_of(letter, first, second))])


def parted(p):
    """How many texts follow behind the first one; then the number out front, then what goes in once, twice, ..."""
    polynomial = polynomial_of(p)
    refusal = refusal_of_parted(polynomial)
    if refusal != NOTHING:
        return [refusal]
    found = taken_apart(polynomial)
    return answer(len(found), [number_out_front(polynomial)] + found)


def parts(letter, p):
    """How many; then p's parts by the letter, from power 0 on."""
    polynomial = polynomial_of(p)
    refusal = refusal_with_letter(letter, polynomial)
    if refusal != NOTHING:
        return [refusal]
    found = parts_by(letter, polynomial)
    return answer(len(found), found)


def plain(p):
    """2, then the number out front, then the plain form."""
    polynomial = polynomial_of(p)
    refusal = refusal_of_plain(polynomial)
    if refusal != NOTHING:
        return [refusal]
    return answer(2, [number_out_front(polynomial), plain_form(polynomial)])


def degree(p):
    """p's degree."""
    polynomial = polynomial_of(p)
    refusal = refusal_of_polynomials([polynomial])
    if refusal != NOTHING:
        return [refusal]
    return answer(degree_of(polynomial), [])


def answer(number, polynomials):
    """The number, then each polynomial's text: how many bytes it has, then these."""
    told = [number]
    for polynomial in polynomials:
        text = text_of(polynomial)
        told.append(len(text))
        told.extend([ord(sign) for sign in text])
    return told
