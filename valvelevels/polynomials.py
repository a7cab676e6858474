"""Polynomials: lists of integers, the last of which is not 0."""

from valvelevels.algebra import added, common_factor, cut, multiplied, plain_of, remainder, value_at
from valvelevels.checks import check_fraction, check_not_zero, check_polynomials


def trimmed(numbers):
    """Return the polynomial with some numbers, without zeros at the end."""
    return cut(numbers)


def plus(one, other):
    """Return the sum of two polynomials."""
    check_polynomials([one, other])
    return added(one, other)


def times(one, other):
    """Return the product of two polynomials."""
    check_polynomials([one, other])
    return multiplied(one, other)


def value(one, spot):
    """Return what a polynomial is at a fraction."""
    check_polynomials([one])
    check_fraction(spot)
    return value_at(one, spot)


def rest(one, other):
    """Return the rest of a polynomial by another one, the empty list if that goes into it."""
    check_polynomials([one, other])
    check_not_zero(other)
    return remainder(one, other)


def common(one, other):
    """Return the greatest common factor of two polynomials, the empty list if both are 0."""
    check_polynomials([one, other])
    return common_factor(one, other)


def plain(one):
    """Return the plain polynomial of one that is not 0."""
    check_polynomials([one])
    check_not_zero(one)
    return plain_of(one)
