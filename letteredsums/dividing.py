"""One polynomial divided by another, numbers out front and plain forms."""

from letteredsums.forms import Polynomial, common_divisor, highest_product, is_zero
from letteredsums.reckoning import added, divided_by_whole, multiplied, number_alone


def signed_content(polynomial):
    """What the numbers above the line are divided by for the plain form; the polynomial isn't 0."""
    content = 0
    for top in polynomial.tops.values():
        content = common_divisor(content, abs(top))
    return content if polynomial.tops[highest_product(polynomial)] > 0 else -content


def number_out_front(polynomial):
    """The polynomial of that number alone; the polynomial isn't 0."""
    return number_alone(signed_content(polynomial), polynomial.below)


def plain_form(polynomial):
    """The polynomial, which isn't 0, divided by its number out front."""
    content = signed_content(polynomial)
    tops = {}
    for product, top in polynomial.tops.items():
        tops[product] = top // content
    return Polynomial(tops, 1)


def divided(polynomial, divisor):
    """The quotient, None if the divisor, which isn't 0, doesn't go into the polynomial."""
    # By a plain form, whole numbers give whole numbers or the divisor doesn't go in: no fractions on the way.
    quotient = whole_quotient(Polynomial(polynomial.tops, 1), plain_form(divisor))
    if quotient is None:
        return None
    # What was left aside: both numbers below, and what the plain form took out.
    scaled = multiplied(number_alone(divisor.below, 1), quotient)
    return divided_by_whole(scaled, polynomial.below * signed_content(divisor))


def whole_quotient(rest, divisor):
    """The quotient in whole numbers, None if there is none; both have 1 below, the divisor isn't 0."""
    lead = highest_product(divisor)
    quotient = number_alone(0, 1)
    while not is_zero(rest):
        highest = highest_product(rest)
        product = tuple([m - n for m, n in zip(highest, lead)])
        if min(product) < 0 or rest.tops[highest] % divisor.tops[lead] != 0:
            return None
        number = rest.tops[highest] // divisor.tops[lead]
        quotient = added(quotient, Polynomial({product: number}, 1))
        rest = added(rest, multiplied(Polynomial({product: -number}, 1), divisor))
    return quotient
