"""What a polynomial is within the program, and what can be asked of one."""

LETTERS = "abcdefghijklmnopqrstuvwxyz"


class Polynomial:
    """Whole numbers other than 0, each told by its product of letters, all over one number above 0.

    A product is a tuple of 26 whole numbers: how often each letter is there, from a on.
    One number below them all spares a shortening of fractions at each step of the reckoning.
    """

    def __init__(self, tops, below):
        self.tops = tops
        self.below = below


def common_divisor(first, second):
    """The largest whole number that goes into both; neither is below 0."""
    while second != 0:
        rest = first % second
        first = second
        second = rest
    return first


def common_multiple(first, second):
    """The smallest whole number that both go into; both are above 0."""
    return first // common_divisor(first, second) * second


def rank(product):
    """Larger for the higher of two products."""
    return (sum(product), product)


def number_at(polynomial, product):
    """The number that stands with a product, as its two whole numbers in lowest terms."""
    top = polynomial.tops[product]
    divisor = common_divisor(abs(top), polynomial.below)
    return (top // divisor, polynomial.below // divisor)


def degree_of(polynomial):
    return max([sum(product) for product in polynomial.tops], default=0)


def height_of(letter, polynomial):
    """How often the letter is there at most."""
    return max([product[letter] for product in polynomial.tops], default=0)


def highest_product(polynomial):
    """The product that is written first; the polynomial isn't 0."""
    return max(polynomial.tops, key=rank)


def is_zero(polynomial):
    return len(polynomial.tops) == 0


def letters_of(polynomials):
    """The numbers of the letters that are there in one of these polynomials or more."""
    found = {}
    for polynomial in polynomials:
        for product in polynomial.tops:
            for letter, count in enumerate(product):
                if count > 0:
                    found[letter] = True
    return sorted(found)


def parts_by(letter, polynomial):
    """What stands at the letter's powers, from power 0 up to its height."""
    by_power = [{} for power in range(height_of(letter, polynomial) + 1)]
    for product, top in polynomial.tops.items():
        others = product[:letter] + (0,) + product[letter + 1:]
        by_power[product[letter]][others] = top
    return [Polynomial(tops, polynomial.below) for tops in by_power]
