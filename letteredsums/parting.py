"""A polynomial taken apart by how often what is in it goes into it."""

from letteredsums.dividing import divided, plain_form
from letteredsums.forms import degree_of, letters_of
from letteredsums.reckoning import sloped
from letteredsums.sharing import common_of


def taken_apart(polynomial):
    """In plain form, what goes into the polynomial once, twice, and so on; the polynomial isn't 0."""
    # Of two in plain form the quotient is so too: all that is reckoned with here stays in plain form.
    whole = plain_form(polynomial)
    again = there_again(whole)
    each = divided(whole, again)
    found = []
    # At each step, what goes in just so often is what isn't there once more; the rest goes on to the next one.
    while degree_of(each) > 0:
        further = common_of(each, again)
        found.append(divided(each, further))
        again = divided(again, further)
        each = further
    return found


def there_again(polynomial):
    """All that goes into a polynomial in plain form, each once less often than it does.

    What goes in n times goes into each slope n - 1 times at least, and by one of its letters just so often.
    """
    found = polynomial
    for letter in letters_of([polynomial]):
        found = common_of(found, sloped(letter, polynomial))
    return found
