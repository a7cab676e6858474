"""Places that are known to be right: their order, the sign of a polynomial there, where it is 0."""

from valvelevels.algebra import (
    fraction, midpoint, multiplied, order_of_fractions, plain_of, quotient, sign_at_fraction)
from valvelevels.rows import row_of, sign_over_root, turns_of


def is_root(place):
    """Return True if a place is told as a root."""
    return place[0] == "root"


def copied_place(place):
    """Return a place, 0 or None as one that has nothing in common with what was passed."""
    if place is None or not is_root(place):
        return place
    return ("root", list(place[1]), place[2], place[3])


def sign_at_place(one, place):
    """Return -1, 0 or 1 for what a polynomial is at a place."""
    if not is_root(place):
        return sign_at_fraction(one, place)
    return sign_over_root(one, place[1], place[2], place[3])


def order_of_places(one, other):
    """Return -1, 0 or 1 if the one place, 0 or None (beyond all) lies below, on or above the other one."""
    if one == other:
        return 0
    if one is None or other is None:
        return 1 if one is None else -1
    if is_root(one):
        return order_of_roots(one, other) if is_root(other) else order_by_fraction(one, other)
    return -order_by_fraction(other, one) if is_root(other) else order_of_fractions(one, other)


def order_by_fraction(root, spot):
    """Return -1 or 1 if a root lies below or above a fraction; it never is one."""
    _, told, low, high = root
    if order_of_fractions(spot, low) <= 0:
        return 1
    if order_of_fractions(spot, high) >= 0:
        return -1
    # A plain polynomial keeps its sign from `low` up to its only root there.
    return 1 if sign_at_fraction(told, spot) == sign_at_fraction(told, low) else -1


def order_of_roots(one, other):
    """Return -1, 0 or 1 if the one root lies below, on or above the other one."""
    _, told, low, high = other
    # Most roots are parted by the fractions that they are told with, which costs least.
    if order_by_fraction(one, low) < 0 or order_by_fraction(other, one[3]) > 0:
        return -1
    if order_by_fraction(one, high) > 0 or order_by_fraction(other, one[2]) < 0:
        return 1
    there = sign_at_place(told, one)
    if there == 0:
        return 0
    return -1 if there == sign_at_fraction(told, low) else 1


def fraction_root(one, low, high):
    """Return the only root that a plain polynomial has above `low` and not above `high`, if it is a fraction.

    Otherwise None. Times the last number of the polynomial, a root that is a fraction is an integer.
    """
    last = sign_at_fraction(one, high)
    if last == 0:
        return high
    scale = abs(one[-1])
    under, over = low[0] * scale // low[1], -(-high[0] * scale // high[1])
    while over - under > 1:
        middle = (under + over) // 2
        spot = fraction(middle, scale)
        there = sign_at_fraction(one, spot)
        if there == 0:
            return spot
        if there == last:
            over = middle
        else:
            under = middle
    return None


def bound_of_roots(one):
    """Return a fraction, a power of 2, above all roots of a polynomial that is not 0."""
    # No root is as great as 1 more than the greatest number by the last one (Cauchy).
    most = max([abs(number) for number in one]) // abs(one[-1]) + 2
    bound = 1
    while bound < most:
        bound = bound * 2
    return (bound, 1)


def parted(one):
    """Return pairs of fractions, ascending, each with one root of a plain polynomial above the first one
    and not above the second one; together they have all that are above 0."""
    told = row_of(one)
    low, high = (0, 1), bound_of_roots(one)
    found, waiting = [], [(low, high, turns_of(told, low), turns_of(told, high))]
    while waiting:
        low, high, first, last = waiting[-1]
        waiting = waiting[:-1]
        if first - last == 1:
            found = found + [(low, high)]
        if first - last > 1:
            middle = midpoint(low, high)
            turns = turns_of(told, middle)
            waiting = waiting + [(middle, high, turns, last), (low, middle, first, turns)]
    return found


def without_zero(one):
    """Return a polynomial that is not 0 divided by the unknown as often as that goes."""
    behind = 0
    while one[behind] == 0:
        behind += 1
    return one[behind:]


def places_of(one):
    """Return the places above 0 at which a polynomial that is not 0 is 0, ascending."""
    told = without_zero(plain_of(one))
    pairs = parted(told)
    spots = [fraction_root(told, low, high) for low, high in pairs]
    product = [1]
    for spot in spots:
        if spot is not None:
            product = multiplied(product, [-spot[0], spot[1]])
    # Without its fractions no end of a pair is a root of what is left.
    left = quotient(told, product)
    found = []
    for spot, (low, high) in zip(spots, pairs):
        found = found + [("root", list(left), low, high) if spot is None else spot]
    return found
