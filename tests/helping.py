"""What the tests share: texts as bytes, and a second, slow way to reckon every answer.

The second way shares no code with the package: it reads texts by a regular expression that spells out the
document's rules, keeps Fractions, puts polynomials into one another product by product, divides them with one letter
in place of all, finds what is in common by rests with parts in place of numbers, sums a determinant over all orders
of its columns, and takes a polynomial apart by one letter after the other.
"""

import itertools
import re
from fractions import Fraction
from functools import reduce
from math import gcd, lcm

from letteredsums.polynomials import (common, degree, over, parted, parts, plain, power, product, put, resultant, slope,
                                      sum_of)

LETTERS = "abcdefghijklmnopqrstuvwxyz"
PRIME = 2 ** 61 - 1

WHOLE = r"(?:0|[1-9][0-9]*)"
NUMBER = WHOLE + r"(?:/" + WHOLE + r")?"
POWER = r"[a-z](?:\^" + WHOLE + r")?"
PRODUCT = POWER + r"(?:\*" + POWER + r")*"
TERM = r"(?:" + NUMBER + r"\*" + PRODUCT + r"|" + NUMBER + r"|" + PRODUCT + r")"
TEXT = re.compile(r"-?" + TERM + r"(?: [+-] " + TERM + r")*\Z")
SIGNED_TERM = re.compile(r"(-|\A| - | \+ )(" + TERM + r")")


def codes(text):
    return [ord(sign) for sign in text]


def answered(text):
    """The answer of a call that answers 1 and one text."""
    return laid_out(1, [text])


def laid_out(number, texts):
    """The answer of a call that answers a number and these texts."""
    result = [number]
    for text in texts:
        result += [len(text)] + codes(text)
    return result


def texts_in(answer):
    """The texts of an answer that isn't a refusal, behind its number."""
    texts, place = [], 1
    while place < len(answer):
        end = place + 1 + answer[place]
        if end > len(answer):
            raise ValueError("a text that ends too early")
        texts.append(bytes(answer[place + 1:end]).decode())
        place = end
    return texts


# A polynomial of the second way: a dict from ((letter, count), ...) to a Fraction other than 0.

def read_power(power):
    """A letter and its count, or None if the count may not be written so."""
    letter, hat, count = power.partition("^")
    if hat and int(count) < 2:
        return None
    return letter, int(count) if hat else 1


def read_number(text):
    top, slash, bottom = text.partition("/")
    if slash and (int(bottom) < 2 or gcd(int(top), int(bottom)) > 1):
        return None
    return Fraction(int(top), int(bottom) if slash else 1)


def read_term(text):
    """The product and the number of a term without sign, or None if it breaks a rule."""
    factors = text.split("*")
    number = Fraction(1)
    if factors[0][0].isdigit():
        number = read_number(factors.pop(0))
        if not number or (factors and number == 1):
            return None
    powers = [read_power(factor) for factor in factors]
    if None in powers:
        return None
    letters = [letter for letter, count in powers]
    if letters != sorted(set(letters)):
        return None
    return tuple(powers), number


def height_key(product):
    counts = dict(product)
    return sum(counts.values()), [counts.get(letter, 0) for letter in LETTERS]


def read(text):
    """The polynomial of a text, or None if the text isn't a polynomial's."""
    if text == "0":
        return {}
    if not TEXT.match(text):
        return None
    result = {}
    last = None
    for sign, body in SIGNED_TERM.findall(text):
        term = read_term(body)
        if term is None or (last is not None and height_key(term[0]) >= height_key(last)):
            return None
        last = term[0]
        result[term[0]] = -term[1] if "-" in sign else term[1]
    return result


def write(polynomial):
    text = ""
    for product in sorted(polynomial, key=height_key, reverse=True):
        number = polynomial[product]
        powers = [letter if count == 1 else f"{letter}^{count}" for letter, count in product]
        if abs(number) != 1 or not powers:
            powers.insert(0, str(abs(number)))
        if text:
            text += " - " if number < 0 else " + "
        elif number < 0:
            text = "-"
        text += "*".join(powers)
    return text or "0"


def plus(first, second):
    result = dict(first)
    for product, number in second.items():
        result[product] = result.get(product, 0) + number
    return {product: number for product, number in result.items() if number}


def times(first, second):
    result = {}
    for (left, number), (right, other) in itertools.product(first.items(), second.items()):
        counts = dict(left)
        for letter, count in right:
            counts[letter] = counts.get(letter, 0) + count
        product = tuple(sorted(counts.items()))
        result[product] = result.get(product, 0) + number * other
    return {product: number for product, number in result.items() if number}


def to_power(polynomial, n):
    result = {(): Fraction(1)}
    for step in range(n):
        result = times(result, polynomial)
    return result


def put_into(letter, polynomial, other):
    result = {}
    for product, number in polynomial.items():
        rest = tuple(pair for pair in product if pair[0] != letter)
        result = plus(result, times({rest: number}, to_power(other, dict(product).get(letter, 0))))
    return result


def degree_of(polynomial):
    return max((sum(count for letter, count in product) for product in polynomial), default=0)


def slope_by(letter, polynomial):
    result = {}
    for product, number in polynomial.items():
        counts = dict(product)
        count = counts.pop(letter, 0)
        if count > 1:
            counts[letter] = count - 1
        result = plus(result, {tuple(sorted(counts.items())): number * count})
    return result


def letters_in(polynomials):
    return sorted({letter for polynomial in polynomials for product in polynomial for letter, count in product})


def quotient(polynomial, divisor):
    """The quotient, or None: divided with powers of one letter so high that each product has one of its own."""
    letters = letters_in([polynomial, divisor])
    room = degree_of(polynomial) - degree_of(divisor)
    base = max(degree_of(polynomial), degree_of(divisor)) + 1

    def packed(product):
        return sum(count * base ** letters.index(letter) for letter, count in product)

    products = {packed(product): product for product in products_up_to(max(room, 0), letters)}
    rest = {packed(product): number for product, number in polynomial.items()}
    below = {packed(product): number for product, number in divisor.items()}
    result = {}
    while rest:
        step = max(rest) - max(below)
        if room < 0 or step not in products:
            return None
        number = rest[max(rest)] / below[max(below)]
        result[products[step]] = number
        rest = plus(rest, {step + place: -number * other for place, other in below.items()})
    return result


def number_out_front(polynomial):
    """The number out front of a polynomial other than 0."""
    numbers = polynomial.values()
    front = Fraction(gcd(*[number.numerator for number in numbers]), lcm(*[number.denominator for number in numbers]))
    return -front if polynomial[max(polynomial, key=height_key)] < 0 else front


def plain_form(polynomial):
    """The plain form of a polynomial other than 0."""
    front = number_out_front(polynomial)
    return {product: number / front for product, number in polynomial.items()}


def height(letter, polynomial):
    return max((dict(product).get(letter, 0) for product in polynomial), default=0)


def parts_by(letter, polynomial):
    """The parts by the letter, from power 0 on."""
    result = [{} for power in range(height(letter, polynomial) + 1)]
    for product, number in polynomial.items():
        rest = tuple(pair for pair in product if pair[0] != letter)
        result[dict(product).get(letter, 0)][rest] = number
    return result


def without_what_parts_share(letter, polynomial):
    """The polynomial in plain form, divided by what its parts have in common, and that."""
    shared = reduce(in_common, parts_by(letter, polynomial))
    return plain_form(quotient(polynomial, shared)), shared


def in_common(first, second):
    """What both have in common, in plain form; 0 if both are 0."""
    if not first or not second:
        return plain_form(first or second) if first or second else {}
    letters = letters_in([first, second])
    if not letters:
        return {(): Fraction(1)}
    letter = letters[-1]
    first, shared = without_what_parts_share(letter, first)
    second, other = without_what_parts_share(letter, second)
    while second:
        rest = rest_by(letter, first, second)
        first, second = second, without_what_parts_share(letter, rest)[0] if rest else {}
    return plain_form(times(first, in_common(shared, other)))


def rest_by(letter, polynomial, divisor):
    """A multiple of the rest of dividing by powers of the letter."""
    below = height(letter, divisor)
    while polynomial and height(letter, polynomial) >= below:
        step = height(letter, polynomial) - below
        first = parts_by(letter, polynomial)[-1]
        moved = times(first, {((letter, step),) if step else (): Fraction(-1)})
        polynomial = plus(times(polynomial, parts_by(letter, divisor)[-1]), times(moved, divisor))
    return polynomial


def apart(polynomial):
    """What goes into a polynomial other than 0 once, twice and so on, in plain form."""
    letters = letters_in([polynomial])
    if not letters:
        return []
    letter = letters[-1]
    body, shared = without_what_parts_share(letter, polynomial)
    pairs = itertools.zip_longest(apart_by(letter, body), apart(shared), fillvalue={(): Fraction(1)})
    return [plain_form(times(first, second)) for first, second in pairs]


def apart_by(letter, polynomial):
    """The same if the letter is in all that goes in: what is left of the slope shows how often each does."""
    again = in_common(polynomial, slope_by(letter, polynomial))
    each, left = quotient(polynomial, again), quotient(slope_by(letter, polynomial), again)
    found = []
    while letters_in([each]):
        left = plus(left, times(slope_by(letter, each), {(): Fraction(-1)}))
        found.append(in_common(each, left))
        each, left = quotient(each, found[-1]), quotient(left, found[-1])
    return found


def value_of(polynomial, values):
    """The polynomial's value with a number for each letter."""
    result = Fraction(0)
    for product, number in polynomial.items():
        for letter, count in product:
            number = number * values[letter] ** count
        result += number
    return result


def rests_end_in_a_number(first, second):
    """Whether two lists of numbers, the highest power's last, have no power of a letter in common by a prime."""
    while len(second) > 1:
        while len(first) >= len(second):
            factor = first[-1] * pow(second[-1], -1, PRIME)
            shift = len(first) - len(second)
            first = [(number - factor * second[place - shift]) % PRIME if place >= shift else number
                     for place, number in enumerate(first)]
            while first and first[-1] == 0:
                first.pop()
        first, second = second, first
    return len(second) == 1


def share_only_numbers(chance, first, second):
    """Whether it can be shown, with numbers for the other letters, that no letter is in what both have in common."""
    for letter in set(letters_in([first])) & set(letters_in([second])):
        for attempt in range(50):
            values = {other: Fraction(chance.randrange(1000)) for other in letters_in([first, second])}
            rows = [[value_of(part, values) for part in parts_by(letter, polynomial)] for polynomial in (first, second)]
            rows = [[number.numerator * pow(number.denominator, -1, PRIME) % PRIME for number in row] for row in rows]
            # Where a first number becomes 0, what is in common could lose its letter too.
            if rows[0][-1] and rows[1][-1] and rests_end_in_a_number(rows[0], rows[1]):
                break
        else:
            return False
    return True


def table(letter, first, second):
    """The square table of the call resultant."""
    n, m = height(letter, first), height(letter, second)
    rows = []
    for parts, count in ((parts_by(letter, first), m), (parts_by(letter, second), n)):
        for row in range(count):
            rows.append([{}] * row + parts[::-1] + [{}] * (count - 1 - row))
    return rows


def sum_over_orders(rows):
    """The determinant: for each order of the columns the product along it, with its sign."""
    result = {}
    for order in itertools.permutations(range(len(rows))):
        swaps = sum(order[i] > order[j] for j in range(len(order)) for i in range(j))
        factors = [row[column] for row, column in zip(rows, order)]
        if all(factors):
            result = plus(result, reduce(times, factors, {(): Fraction((-1) ** swaps)}))
    return result


def first_refusal(texts, highest=8):
    """What point 1 of the promises says of these texts; 0 if nothing."""
    polynomials = [read(text) for text in texts]
    if None in polynomials:
        return -1
    letters = {letter for polynomial in polynomials for product in polynomial for letter, count in product}
    wholes = [whole for polynomial in polynomials for number in polynomial.values()
              for whole in (abs(number.numerator), number.denominator)]
    if (len(letters) > 3 or any(len(polynomial) > 30 or degree_of(polynomial) > highest for polynomial in polynomials)
            or any(len(str(whole)) > 12 for whole in wholes)):
        return -2
    return 0


def expected_sum(p, q):
    refusal = first_refusal([p, q])
    return [refusal] if refusal else answered(write(plus(read(p), read(q))))


def expected_product(p, q):
    refusal = first_refusal([p, q])
    return [refusal] if refusal else answered(write(times(read(p), read(q))))


def expected_power(n, p):
    refusal = first_refusal([p])
    if refusal:
        return [refusal]
    if n > 12 or n * degree_of(read(p)) > 12:
        return [-2]
    return answered(write(to_power(read(p), n)))


def expected_put(letter, p, q):
    if letter > 25:
        return [-4]
    refusal = first_refusal([p, q])
    if refusal:
        return [refusal]
    if degree_of(read(p)) * degree_of(read(q)) > 12:
        return [-2]
    return answered(write(put_into(LETTERS[letter], read(p), read(q))))


def expected_slope(letter, p):
    if letter > 25:
        return [-4]
    refusal = first_refusal([p])
    return [refusal] if refusal else answered(write(slope_by(LETTERS[letter], read(p))))


def expected_over(p, q):
    refusal = first_refusal([p, q])
    if refusal:
        return [refusal]
    if q == "0":
        return [-3]
    found = quotient(read(p), read(q))
    return [-5] if found is None else answered(write(found))


def expected_common(p, q):
    refusal = first_refusal([p, q], 5)
    if refusal:
        return [refusal]
    if p == q == "0":
        return [-3]
    return answered(write(in_common(read(p), read(q))))


def expected_resultant(letter, p, q):
    if letter > 25:
        return [-4]
    refusal = first_refusal([p, q], 5)
    if refusal:
        return [refusal]
    heights = [height(LETTERS[letter], read(text)) for text in (p, q)]
    if 0 in heights:
        return [-3]
    if sum(heights) > 5:
        return [-2]
    return answered(write(sum_over_orders(table(LETTERS[letter], read(p), read(q)))))


def expected_parted(p):
    refusal = first_refusal([p], 6)
    if refusal:
        return [refusal]
    if p == "0":
        return [-3]
    found = apart(read(p))
    return laid_out(len(found), [str(number_out_front(read(p)))] + [write(polynomial) for polynomial in found])


def expected_parts(letter, p):
    if letter > 25:
        return [-4]
    refusal = first_refusal([p])
    if refusal:
        return [refusal]
    found = parts_by(LETTERS[letter], read(p))
    return laid_out(len(found), [write(polynomial) for polynomial in found])


def expected_plain(p):
    refusal = first_refusal([p])
    if refusal:
        return [refusal]
    if p == "0":
        return [-3]
    return laid_out(2, [str(number_out_front(read(p))), write(plain_form(read(p)))])


def expected_degree(p):
    refusal = first_refusal([p])
    return [refusal] if refusal else [degree_of(read(p))]


def products_up_to(highest, letters):
    """All products of these letters up to a degree, the higher ones first, as the second way keeps them."""
    found = []
    for counts in itertools.product(range(highest + 1), repeat=len(letters)):
        if sum(counts) <= highest:
            found.append(tuple((letter, count) for letter, count in zip(letters, counts) if count))
    return sorted(found, key=height_key, reverse=True)


def random_polynomial(chance, letters, highest, most, digits):
    """A polynomial of the second way with at most this many products and digits."""
    products = products_up_to(highest, letters)
    result = {}
    for product in chance.sample(products, chance.randint(0, min(most, len(products)))):
        top = chance.choice([1, 1, 2, 3, chance.randrange(1, 10 ** digits)])
        bottom = chance.choice([1, 1, 1, 2, 3, chance.randrange(1, 10 ** digits)])
        result[product] = Fraction(chance.choice([-1, 1]) * top, bottom)
    return result


def places(other):
    """Every place where a text is handed over: its name, a call with the text there, and what is expected.

    `other` stands at the second place, where there is one.
    """
    rest = codes(other)
    return [
        ("sum_of p", lambda p: sum_of(p, rest), lambda p: expected_sum(p, other)),
        ("sum_of q", lambda q: sum_of(rest, q), lambda q: expected_sum(other, q)),
        ("product p", lambda p: product(p, rest), lambda p: expected_product(p, other)),
        ("product q", lambda q: product(rest, q), lambda q: expected_product(other, q)),
        ("power p", lambda p: power(1, p), lambda p: expected_power(1, p)),
        ("put p", lambda p: put(23, p, rest), lambda p: expected_put(23, p, other)),
        ("put q", lambda q: put(23, rest, q), lambda q: expected_put(23, other, q)),
        ("slope p", lambda p: slope(23, p), lambda p: expected_slope(23, p)),
        ("over p", lambda p: over(p, rest), lambda p: expected_over(p, other)),
        ("over q", lambda q: over(rest, q), lambda q: expected_over(other, q)),
        ("common p", lambda p: common(p, rest), lambda p: expected_common(p, other)),
        ("common q", lambda q: common(rest, q), lambda q: expected_common(other, q)),
        ("resultant p", lambda p: resultant(23, p, rest), lambda p: expected_resultant(23, p, other)),
        ("resultant q", lambda q: resultant(23, rest, q), lambda q: expected_resultant(23, other, q)),
        ("parted p", parted, expected_parted),
        ("parts p", lambda p: parts(23, p), lambda p: expected_parts(23, p)),
        ("plain p", plain, expected_plain),
        ("degree p", degree, expected_degree),
    ]


def highest_at(place):
    """The highest degree that may be handed over at a place."""
    return {"common": 5, "resultant": 5, "parted": 6}.get(place.split()[0], 8)
