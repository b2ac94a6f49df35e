"""What two polynomials have in common.

With numbers in place of all letters but one, the rests of dividing show it. From what is so found for enough
numbers it is put together, letter by letter, and then tried by dividing.
"""

from letteredsums.dividing import divided, plain_form
from letteredsums.forms import Polynomial, degree_of, height_of, highest_product, is_zero, letters_of
from letteredsums.reckoning import added, divided_by_whole, letter_alone, multiplied, number_alone, replaced


def common_of(first, second):
    """What both have in common, in plain form; one of them may be 0."""
    if is_zero(first):
        return plain_form(second)
    if is_zero(second):
        return plain_form(first)
    letters = letters_of([first, second])
    if len(letters) == 0:
        return number_alone(1, 1)
    slant = leading_slant([first, second], letters)
    first_led = plain_form(slanted(first, letters, slant))
    second_led = plain_form(slanted(second, letters, slant))
    return plain_form(slanted(common_of_led(first_led, second_led, letters), letters, -slant))


def leading_slant(polynomials, letters):
    """The smallest slant with which the first letter leads them all."""
    slant = 0
    while not all([leads(letters[0], slanted(polynomial, letters, slant)) for polynomial in polynomials]):
        slant = slant + 1
    return slant


def leads(letter, polynomial):
    """Whether the letter's power alone is one of the products of the polynomial's degree."""
    return height_of(letter, polynomial) == degree_of(polynomial)


def slanted(polynomial, letters, slant):
    """The polynomial with multiples of the first letter added to the others; the slant below 0 undoes that."""
    factor = slant
    for letter in letters[1:]:
        multiple = multiplied(number_alone(factor, 1), letter_alone(letters[0]))
        polynomial = replaced(letter, polynomial, added(letter_alone(letter), multiple))
        # Odd, so that the sign stays; above every degree, so that products of the highest degree can't
        # cancel for all slants, and one that leads is found.
        factor = factor ** 9
    return polynomial


def common_of_led(first, second, letters):
    """What both have in common, in plain form; neither is 0, and the first letter leads both.

    With a number in place of the last letter, the first one still leads. So what is then in common has the degree
    of what is asked for or, for a few numbers, a higher one: what is put together from the lowest degree found
    is right as soon as it goes into both, and it does so once none of the few numbers is among those used.
    """
    if len(letters) == 1:
        return common_by_rests(first, second)
    found = None
    images = []
    value = 0
    while found is None:
        images.append((value, common_at(value, first, second, letters)))
        lowest = min([degree_of(pair[1]) for pair in images])
        images = [pair for pair in images if degree_of(pair[1]) == lowest]
        if len(images) > lowest:
            tried = plain_form(put_together(letters[-1], images))
            if divided(first, tried) is not None and divided(second, tried) is not None:
                found = tried
            images = []
        value = value + 1
    return found


def common_at(value, first, second, letters):
    """What both have in common with a number in place of the last letter."""
    number = number_alone(value, 1)
    return common_of_led(replaced(letters[-1], first, number), replaced(letters[-1], second, number), letters[:-1])


def put_together(letter, images):
    """The polynomial that, with each value in place of the letter, is the value's image over its first number."""
    result = number_alone(0, 1)
    for value, image in images:
        piece = divided_by_whole(image, image.tops[highest_product(image)])
        for other in [pair[0] for pair in images if pair[0] != value]:
            factor = added(letter_alone(letter), number_alone(-other, 1))
            piece = divided_by_whole(multiplied(piece, factor), value - other)
        result = added(result, piece)
    return result


def common_by_rests(first, second):
    """What two in one letter, neither of them 0, have in common, in plain form."""
    while not is_zero(second):
        rest = rest_of(first, second)
        first = second
        # In plain form, so that the numbers don't grow from rest to rest without need.
        second = rest if is_zero(rest) else plain_form(rest)
    return plain_form(first)


def rest_of(polynomial, divisor):
    """A multiple of the rest of a polynomial in one letter divided by another; whole numbers stay whole."""
    lead = highest_product(divisor)
    while not is_zero(polynomial) and degree_of(polynomial) >= degree_of(divisor):
        highest = highest_product(polynomial)
        step = tuple([m - n for m, n in zip(highest, lead)])
        kept = multiplied(number_alone(divisor.tops[lead], 1), polynomial)
        taken = multiplied(Polynomial({step: -polynomial.tops[highest]}, 1), divisor)
        polynomial = added(kept, taken)
    return polynomial
