"""What fractions, polynomials, places and ranges are, and the errors for what is none."""

from math import gcd

from valvelevels.algebra import order_of_fractions, sign_at_fraction
from valvelevels.errors import InvalidFraction, InvalidPlace, InvalidPolynomial, InvalidRange
from valvelevels.rows import counted, row_of
from valvelevels.spots import fraction_root, order_of_places


def copied(thing):
    """Return a thing in which each list, within tuples too, is a new one."""
    if isinstance(thing, list):
        return [copied(part) for part in thing]
    if isinstance(thing, tuple):
        return tuple([copied(part) for part in thing])
    return thing


def is_integer(thing):
    """Return True for an integer; True and False are none."""
    return isinstance(thing, int) and not isinstance(thing, bool)


def is_fraction(thing):
    """Return True for a fraction in lowest terms."""
    if not isinstance(thing, tuple) or len(thing) != 2:
        return False
    above, below = thing
    return is_integer(above) and is_integer(below) and below >= 1 and gcd(above, below) == 1


def is_polynomial(thing):
    """Return True for a list of integers whose last one is not 0."""
    if not isinstance(thing, list) or not all([is_integer(number) for number in thing]):
        return False
    return not thing or thing[-1] != 0


def is_place(thing):
    """Return True for a fraction above 0 and for a root."""
    if is_fraction(thing):
        return thing[0] > 0
    if not isinstance(thing, tuple) or len(thing) != 4 or thing[0] != "root":
        return False
    _, told, low, high = thing
    return is_irrational(told, low, high)


def is_irrational(told, low, high):
    """Return True if a polynomial is plain and changes its sign, between two fractions, at no fraction only."""
    if not is_polynomial(told) or not is_fraction(low) or not is_fraction(high):
        return False
    if low[0] < 0 or order_of_fractions(low, high) >= 0:
        return False
    if sign_at_fraction(told, low) * sign_at_fraction(told, high) != -1:
        return False
    row = row_of(told)
    # The row of a polynomial ends with its common factor with its slope.
    if len(row[-1]) != 1 or counted(row, low, high) != 1:
        return False
    return fraction_root(told, low, high) is None


def is_range(thing):
    """Return True for a range, which has at least one place."""
    if not isinstance(thing, tuple) or len(thing) != 4:
        return False
    low, low_in, high, high_in = thing
    if not isinstance(low_in, bool) or not isinstance(high_in, bool):
        return False
    if not is_low(low, low_in) or not is_high(high, high_in):
        return False
    order = order_of_places(low, high)
    return order < 0 or (order == 0 and low_in and high_in)


def is_low(end, end_in):
    """Return True for a place, and for 0 if it is not in the range."""
    if is_fraction(end) and end[0] == 0:
        return not end_in
    return is_place(end)


def is_high(end, end_in):
    """Return True for a place, and for None if that is not in the range."""
    return not end_in if end is None else is_place(end)


def check_polynomials(told):
    """Raise an error for the first of some things that is no polynomial."""
    for one in told:
        if not is_polynomial(one):
            raise InvalidPolynomial(copied(one))


def check_not_zero(one):
    """Raise an error if a polynomial is 0."""
    if not one:
        raise InvalidPolynomial([])


def check_fraction(spot):
    """Raise an error if something is no fraction."""
    if not is_fraction(spot):
        raise InvalidFraction(copied(spot))


def check_width(width):
    """Raise an error if something is no fraction above 0."""
    if not is_fraction(width) or width[0] <= 0:
        raise InvalidFraction(copied(width))


def check_places(told):
    """Raise an error for the first of some things that is no place."""
    for place in told:
        if not is_place(place):
            raise InvalidPlace(copied(place))


def check_ranges(told):
    """Raise an error for the first of some things that is no range."""
    for stretch in told:
        if not is_range(stretch):
            raise InvalidRange(copied(stretch))
