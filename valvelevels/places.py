"""Places: how numbers above 0 are told, where polynomials are 0, and ranges of places."""

from valvelevels.checks import (
    check_fraction, check_not_zero, check_places, check_polynomials, check_ranges)
from valvelevels.rows import roots_between, row_of, turns_of
from valvelevels.spots import order_of_places, places_of, sign_at_place
from valvelevels.stretches import are_same, difference_of, lies_in, simplest_of, union_of


def row(one):
    """Return the row of rests of a polynomial that is not 0."""
    check_polynomials([one])
    check_not_zero(one)
    return row_of(one)


def turns(told, spot):
    """Return the turns of a row of polynomials at a fraction, beyond all widths if it is None."""
    check_polynomials(told)
    if spot is not None:
        check_fraction(spot)
    return turns_of(told, spot)


def number_of_roots(one, low, high):
    """Return how many unlike roots a polynomial has above `low` and not above `high`, None for beyond all."""
    check_polynomials([one])
    check_not_zero(one)
    check_fraction(low)
    if high is not None:
        check_fraction(high)
    return roots_between(one, low, high)


def places(one):
    """Return the places above 0 at which a polynomial that is not 0 is 0, ascending."""
    check_polynomials([one])
    check_not_zero(one)
    return places_of(one)


def sign(one, place):
    """Return -1, 0 or 1 for what a polynomial is at a place."""
    check_polynomials([one])
    check_places([place])
    return sign_at_place(one, place)


def compare(one, other):
    """Return -1, 0 or 1 if the one place lies below the other one, on it, above it."""
    check_places([one, other])
    return order_of_places(one, other)


def simplest(stretch):
    """Return the simplest place of a range."""
    check_ranges([stretch])
    return simplest_of(stretch)


def has(told, place):
    """Return True if a place lies in a range of a list, otherwise False."""
    check_places([place])
    check_ranges(told)
    return lies_in(told, place)


def united(told):
    """Return the set of all that lies in the ranges of a list."""
    check_ranges(told)
    return union_of(told)


def without(one, other):
    """Return the set of what lies in the ranges of one list and in none of the other one."""
    check_ranges(one + other)
    return difference_of(one, other)


def same(one, other):
    """Return True if two lists of ranges have the same places, otherwise False."""
    check_ranges(one + other)
    return are_same(one, other)
