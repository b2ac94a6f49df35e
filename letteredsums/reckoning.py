"""Reckoning with polynomials: each def makes a new one and leaves those it was given as they are."""

from letteredsums.forms import LETTERS, Polynomial, common_multiple, parts_by


def number_alone(top, below):
    """The polynomial that is this number, without letters."""
    return Polynomial(without_zeros({tuple([0] * len(LETTERS)): top}), below)


def letter_alone(letter):
    """The polynomial that is this letter."""
    return Polynomial({tuple([1 if place == letter else 0 for place in range(len(LETTERS))]): 1}, 1)


def without_zeros(tops):
    kept = {}
    for product, top in tops.items():
        if top != 0:
            kept[product] = top
    return kept


def added(first, second):
    below = common_multiple(first.below, second.below)
    sums = {}
    for polynomial in (first, second):
        factor = below // polynomial.below
        for product, top in polynomial.tops.items():
            sums[product] = sums.get(product, 0) + top * factor
    return Polynomial(without_zeros(sums), below)


def multiplied(first, second):
    sums = {}
    for left, left_top in first.tops.items():
        for right, right_top in second.tops.items():
            product = tuple([m + n for m, n in zip(left, right)])
            sums[product] = sums.get(product, 0) + left_top * right_top
    return Polynomial(without_zeros(sums), first.below * second.below)


def raised(polynomial, power):
    result = number_alone(1, 1)
    for step in range(power):
        result = multiplied(result, polynomial)
    return result


def replaced(letter, polynomial, other):
    """The polynomial with the other one in place of the letter."""
    result = number_alone(0, 1)
    # From the highest power down, so that each step needs one multiplication and no power of its own.
    for part in reversed(parts_by(letter, polynomial)):
        result = added(multiplied(result, other), part)
    return result


def sloped(letter, polynomial):
    """The slope of the polynomial by the letter."""
    tops = {}
    for product, top in polynomial.tops.items():
        count = product[letter]
        if count > 0:
            tops[product[:letter] + (count - 1,) + product[letter + 1:]] = top * count
    return Polynomial(tops, polynomial.below)


def divided_by_whole(polynomial, whole):
    """The polynomial divided by a whole number other than 0."""
    signed = polynomial if whole > 0 else multiplied(number_alone(-1, 1), polynomial)
    return Polynomial(signed.tops, signed.below * abs(whole))
