"""What is refused, and by which number."""

from letteredsums.forms import degree_of, letters_of, number_at

NOTHING = 0
NOT_A_POLYNOMIAL = -1
TOO_LARGE = -2

MOST_PRODUCTS = 30
MOST_LETTERS = 3
HIGHEST_DEGREE = 8
LARGEST_WHOLE = 999999999999


def refusal_of_polynomials(polynomials):
    """The refusal of what was handed over as polynomials' texts; NOTHING if they fit."""
    if any([polynomial is None for polynomial in polynomials]):
        return NOT_A_POLYNOMIAL
    if any([is_too_large(polynomial) for polynomial in polynomials]):
        return TOO_LARGE
    if len(letters_of(polynomials)) > MOST_LETTERS:
        return TOO_LARGE
    return NOTHING


def is_too_large(polynomial):
    """Whether one polynomial alone is; its letters are counted with those of the others."""
    if len(polynomial.tops) > MOST_PRODUCTS or degree_of(polynomial) > HIGHEST_DEGREE:
        return True
    for product in polynomial.tops:
        number = number_at(polynomial, product)
        if abs(number[0]) > LARGEST_WHOLE or number[1] > LARGEST_WHOLE:
            return True
    return False
