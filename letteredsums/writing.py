"""From polynomials to their texts."""

from letteredsums.forms import LETTERS, is_zero, number_at, rank

PIECE = 1000000000000000000
PIECE_DIGITS = 18


def digits_of(whole):
    """A whole number's digits; piece by piece, as `str` refuses numbers of some thousand digits."""
    pieces = []
    while whole >= PIECE:
        pieces.append(str(whole % PIECE).zfill(PIECE_DIGITS))
        whole = whole // PIECE
    pieces.append(str(whole))
    return "".join(reversed(pieces))


def number_text(top, bottom):
    """The text of a number, without its sign."""
    if bottom == 1:
        return digits_of(abs(top))
    return digits_of(abs(top)) + "/" + digits_of(bottom)


def product_text(product):
    powers = []
    for letter, count in zip(LETTERS, product):
        if count == 1:
            powers.append(letter)
        if count > 1:
            powers.append(letter + "^" + digits_of(count))
    return "*".join(powers)


def unsigned_text(number, product):
    """The text of a product with its number, without the number's sign."""
    letters = product_text(product)
    if letters == "":
        return number
    if number == "1":
        return letters
    return number + "*" + letters


def sign_text(below_zero, is_first):
    if is_first:
        return "-" if below_zero else ""
    return " - " if below_zero else " + "


def text_of(polynomial):
    if is_zero(polynomial):
        return "0"
    pieces = []
    for product in sorted(polynomial.tops, key=rank, reverse=True):
        number = number_at(polynomial, product)
        pieces.append(sign_text(number[0] < 0, len(pieces) == 0))
        pieces.append(unsigned_text(number_text(number[0], number[1]), product))
    return "".join(pieces)
