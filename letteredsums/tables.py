"""The square table of two polynomials by a letter, and its determinant."""

from letteredsums.forms import is_zero, parts_by
from letteredsums.reckoning import added, multiplied, number_alone


def table_of(letter, first, second):
    """A row of the first one's parts for each of the second one's powers of the letter above 0, and the other way."""
    first_parts = list(reversed(parts_by(letter, first)))
    second_parts = list(reversed(parts_by(letter, second)))
    return stepped(first_parts, len(second_parts) - 1) + stepped(second_parts, len(first_parts) - 1)


def stepped(parts, count):
    """So many rows of the parts, each a column further than the one above, with zeros around."""
    zero = number_alone(0, 1)
    return [[zero] * row + parts + [zero] * (count - 1 - row) for row in range(count)]


def determinant(table):
    """By the first row, which needs no dividing and so no care for zeros; a table has at most 5 rows."""
    if len(table) == 0:
        return number_alone(1, 1)
    result = number_alone(0, 1)
    for column, entry in enumerate(table[0]):
        if not is_zero(entry):
            smaller = [row[:column] + row[column + 1:] for row in table[1:]]
            sign = number_alone(1 if column % 2 == 0 else -1, 1)
            result = added(result, multiplied(multiplied(sign, entry), determinant(smaller)))
    return result
