"""From texts to polynomials.

Each polynomial has one text. So a text is first read without care for order, for what is there twice
and for how numbers are written; it is a polynomial's just if what was read has this very text.
What can't be read is None.
"""

from letteredsums.forms import LETTERS, Polynomial
from letteredsums.reckoning import added, multiplied, number_alone
from letteredsums.writing import text_of

DIGITS = "0123456789"
SIGNS = " +-*/^0123456789abcdefghijklmnopqrstuvwxyz"


def polynomial_of(codes):
    """The polynomial whose text has these bytes."""
    text = text_with(codes)
    if text is None:
        return None
    polynomial = loosely_read(text)
    if polynomial is None or text_of(polynomial) != text:
        return None
    return polynomial


def text_with(codes):
    """The text that has these bytes, if each of them can stand in a polynomial's text."""
    known = {}
    for sign in SIGNS:
        known[ord(sign)] = sign
    if not all([code in known for code in codes]):
        return None
    return "".join([known[code] for code in codes])


def loosely_read(text):
    words = signs_and_terms(text)
    if len(words) % 2 != 0:
        return None
    polynomial = number_alone(0, 1)
    for place in range(0, len(words), 2):
        term = term_of(words[place], words[place + 1])
        if term is None:
            return None
        polynomial = added(polynomial, term)
    return polynomial


def signs_and_terms(text):
    """The text's words, with a sign ahead of the first one too."""
    if text.startswith("-"):
        return ["-"] + text[1:].split(" ")
    return ["+"] + text.split(" ")


def term_of(sign, body):
    """The polynomial of one product with its number, told by its sign and what stands behind that."""
    factors = body.split("*")
    number = number_alone(1, 1)
    if body[:1].isdigit():
        number = number_of(factors[0])
        factors = factors[1:]
    product = product_of(factors)
    if number is None or product is None:
        return None
    if sign == "+":
        return multiplied(number, product)
    if sign == "-":
        return multiplied(number_alone(-1, 1), multiplied(number, product))
    return None


def number_of(text):
    """The polynomial of a number alone."""
    halves = text.split("/")
    if len(halves) > 2 or not all([half.isdigit() for half in halves]):
        return None
    bottom = whole_of(halves[1]) if len(halves) == 2 else 1
    if bottom == 0:
        return None
    return number_alone(whole_of(halves[0]), bottom)


def whole_of(digits):
    whole = 0
    for digit in digits:
        whole = whole * 10 + DIGITS.find(digit)
    return whole


def product_of(factors):
    """The polynomial of a product of letters, told by its letters with their powers."""
    counts = [0] * len(LETTERS)
    for factor in factors:
        count = count_of(factor[1:])
        if factor == "" or factor[0] not in LETTERS or count is None:
            return None
        letter = LETTERS.find(factor[0])
        counts[letter] = counts[letter] + count
    return Polynomial({tuple(counts): 1}, 1)


def count_of(text):
    """How often a letter is there, told by what stands behind it."""
    if text == "":
        return 1
    if text[0] == "^" and text[1:].isdigit():
        return whole_of(text[1:])
    return None
