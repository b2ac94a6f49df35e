"""What is refused, and by which number."""

from letteredsums.forms import LETTERS, degree_of, is_zero, letters_of, number_at

NOTHING = 0
NOT_A_POLYNOMIAL = -1
TOO_LARGE = -2
HAS_NO_ANSWER = -3
NOT_A_LETTER = -4
DOES_NOT_GO_IN = -5

MOST_PRODUCTS = 30
MOST_LETTERS = 3
HIGHEST_DEGREE = 8
LARGEST_WHOLE = 999999999999
HIGHEST_RESULT = 12


def refusal_of_polynomials(polynomials):
    """The refusal of what was handed over as polynomials' texts; NOTHING if they fit."""
    if any([polynomial is None for polynomial in polynomials]):
        return NOT_A_POLYNOMIAL
    if any([is_too_large(polynomial) for polynomial in polynomials]):
        return TOO_LARGE
    if len(letters_of(polynomials)) > MOST_LETTERS:
        return TOO_LARGE
    return NOTHING


def is_too_large(polynomial):
    """Whether one polynomial alone is; its letters are counted with those of the others."""
    if len(polynomial.tops) > MOST_PRODUCTS or degree_of(polynomial) > HIGHEST_DEGREE:
        return True
    for product in polynomial.tops:
        number = number_at(polynomial, product)
        if abs(number[0]) > LARGEST_WHOLE or number[1] > LARGEST_WHOLE:
            return True
    return False


def refusal_of_power(power, polynomial):
    refusal = refusal_of_polynomials([polynomial])
    if refusal != NOTHING:
        return refusal
    if power > HIGHEST_RESULT or power * degree_of(polynomial) > HIGHEST_RESULT:
        return TOO_LARGE
    return NOTHING


def refusal_with_letter(letter, polynomials):
    """The refusal of a letter's number and of what was handed over as polynomials' texts."""
    if letter >= len(LETTERS):
        return NOT_A_LETTER
    return refusal_of_polynomials(polynomials)


def refusal_of_put(letter, polynomial, other):
    refusal = refusal_with_letter(letter, [polynomial, other])
    if refusal != NOTHING:
        return refusal
    if degree_of(polynomial) * degree_of(other) > HIGHEST_RESULT:
        return TOO_LARGE
    return NOTHING


def refusal_of_over(polynomial, divisor):
    """The refusal but for that of a divisor that doesn't go in, which only dividing shows."""
    refusal = refusal_of_polynomials([polynomial, divisor])
    if refusal != NOTHING:
        return refusal
    if is_zero(divisor):
        return HAS_NO_ANSWER
    return NOTHING
