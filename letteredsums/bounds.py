"""What is refused, and by which number."""

from letteredsums.forms import LETTERS, degree_of, height_of, is_zero, letters_of, number_at

NOTHING = 0
NOT_A_POLYNOMIAL = -1
TOO_LARGE = -2
HAS_NO_ANSWER = -3
NOT_A_LETTER = -4
DOES_NOT_GO_IN = -5

MOST_PRODUCTS = 30
MOST_LETTERS = 3
HIGHEST_DEGREE = 8
HIGHEST_DEGREE_OF_PAIRS = 5
HIGHEST_DEGREE_OF_PARTED = 6
LARGEST_WHOLE = 999999999999
HIGHEST_RESULT = 12
MOST_ROWS = 5


def refusal_of_polynomials(polynomials):
    """The refusal of what was handed over as polynomials' texts; NOTHING if they fit."""
    return refusal_up_to(HIGHEST_DEGREE, polynomials)


def refusal_up_to(highest, polynomials):
    """The same with another highest degree."""
    if any([polynomial is None for polynomial in polynomials]):
        return NOT_A_POLYNOMIAL
    if any([is_too_large(polynomial, highest) for polynomial in polynomials]):
        return TOO_LARGE
    if len(letters_of(polynomials)) > MOST_LETTERS:
        return TOO_LARGE
    return NOTHING


def is_too_large(polynomial, highest):
    """Whether one polynomial alone is; its letters are counted with those of the others."""
    if len(polynomial.tops) > MOST_PRODUCTS or degree_of(polynomial) > highest:
        return True
    for product in polynomial.tops:
        number = number_at(polynomial, product)
        if abs(number[0]) > LARGEST_WHOLE or number[1] > LARGEST_WHOLE:
            return True
    return False


def refusal_of_power(power, polynomial):
    refusal = refusal_of_polynomials([polynomial])
    if refusal != NOTHING:
        return refusal
    if power > HIGHEST_RESULT or power * degree_of(polynomial) > HIGHEST_RESULT:
        return TOO_LARGE
    return NOTHING


def refusal_of_letter(letter):
    return NOT_A_LETTER if letter >= len(LETTERS) else NOTHING


def refusal_with_letter(letter, polynomial):
    """The refusal of a call that is told a letter and one polynomial."""
    refusal = refusal_of_letter(letter)
    return refusal if refusal != NOTHING else refusal_of_polynomials([polynomial])


def refusal_of_put(letter, polynomial, other):
    refusal = refusal_of_letter(letter)
    if refusal == NOTHING:
        refusal = refusal_of_polynomials([polynomial, other])
    if refusal != NOTHING:
        return refusal
    if degree_of(polynomial) * degree_of(other) > HIGHEST_RESULT:
        return TOO_LARGE
    return NOTHING


def refusal_of_over(polynomial, divisor):
    """The refusal but for that of a divisor that doesn't go in, which only dividing shows."""
    refusal = refusal_of_polynomials([polynomial, divisor])
    if refusal != NOTHING:
        return refusal
    if is_zero(divisor):
        return HAS_NO_ANSWER
    return NOTHING


def refusal_of_common(first, second):
    refusal = refusal_up_to(HIGHEST_DEGREE_OF_PAIRS, [first, second])
    if refusal != NOTHING:
        return refusal
    if is_zero(first) and is_zero(second):
        return HAS_NO_ANSWER
    return NOTHING


def refusal_of_resultant(letter, first, second):
    refusal = refusal_of_letter(letter)
    if refusal == NOTHING:
        refusal = refusal_up_to(HIGHEST_DEGREE_OF_PAIRS, [first, second])
    if refusal != NOTHING:
        return refusal
    heights = [height_of(letter, first), height_of(letter, second)]
    if 0 in heights:
        return HAS_NO_ANSWER
    if sum(heights) > MOST_ROWS:
        return TOO_LARGE
    return NOTHING


def refusal_of_parted(polynomial):
    return refusal_with_0(HIGHEST_DEGREE_OF_PARTED, polynomial)


def refusal_of_plain(polynomial):
    return refusal_with_0(HIGHEST_DEGREE, polynomial)


def refusal_with_0(highest, polynomial):
    """The refusal of a call that has no answer for 0."""
    refusal = refusal_up_to(highest, [polynomial])
    if refusal != NOTHING:
        return refusal
    if is_zero(polynomial):
        return HAS_NO_ANSWER
    return NOTHING
