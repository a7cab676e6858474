"""Rows of rests and their turns, by which roots are counted."""

from valvelevels.algebra import (
    multiplied, negated, order_of_fractions, plain_of, remainder, scaled_value, sign_of, slope)


def signed_rests(one, other):
    """Return two polynomials and, again and again, the rest of the last but one by the last, signs turned."""
    told = [list(one)]
    following = other
    while following:
        told = told + [following]
        following = negated(remainder(told[-2], told[-1]))
    return told


def row_of(one):
    """Return the row of rests of a polynomial that is not 0."""
    return signed_rests(one, slope(one))


def leading(one, spot):
    """Return a number with the sign of a polynomial just behind 0, beyond all widths (None), or at a fraction."""
    if not one:
        return 0
    if spot is None:
        return one[-1]
    if spot == (0, 1):
        return [number for number in one if number != 0][0]
    return scaled_value(one, spot)[0]


def turns_of(told, spot):
    """Return how often the sign turns in a row of polynomials, where zeros do not count."""
    last, many = 0, 0
    for one in told:
        sign = sign_of(leading(one, spot))
        if sign != 0:
            if sign == -last:
                many += 1
            last = sign
    return many


def counted(told, low, high):
    """Return how many roots lie above one fraction and not above another one, by a plain polynomial's row."""
    if high is not None and order_of_fractions(low, high) >= 0:
        return 0
    return turns_of(told, low) - turns_of(told, high)


def roots_between(one, low, high):
    """Return how many unlike roots a polynomial that is not 0 has above one fraction and not above another."""
    return counted(row_of(plain_of(one)), low, high)


def sign_over_root(one, told, low, high):
    """Return the sign of a polynomial at the only root that a plain one has between two fractions.

    The turns of this row differ by the sum of the signs at the roots between.
    """
    part = remainder(multiplied(slope(told), remainder(one, told)), told)
    signs = signed_rests(told, part)
    return turns_of(signs, low) - turns_of(signs, high)
