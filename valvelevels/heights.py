"""The least height that no level of a tank is above."""

from valvelevels.algebra import (
    common_factor, fraction, less, midpoint, negated, order_of_fractions, power, quotient, resultant,
    sign_at_fraction, value_at)
from valvelevels.forms import constant, crossed, far_off, form_at, near_zero, turning_places
from valvelevels.spots import is_root, sign_at_place
from valvelevels.stretches import side, simplest_of


def highest_of(told, tank):
    """Return the least height that no level of a tank is above, in all ways of a script, and whether one is there.

    The height is None if there is none, or if it is no fraction.
    """
    best, reached, roots = (0, 1), False, []
    for form, spot, inside in candidates(told, tank):
        if spot is not None and is_root(spot):
            roots = roots + [(form, spot, inside)]
        else:
            height = height_at(form, spot)
            if height is None:
                return None, False
            best, reached = higher(best, reached, order_of_fractions(height, best), height, inside)
    unsolved = []
    for form, root, inside in roots:
        order = order_at(form, root, best)
        height = fraction_at(form, root) if order > 0 else best
        if height is None:
            unsolved = unsolved + [(form, root)]
        else:
            best, reached = higher(best, reached, order, height, inside)
    if any([order_at(form, root, best) > 0 for form, root in unsolved]):
        return None, False
    return best, reached


def higher(best, reached, order, height, inside):
    """Return the greater one of two heights, whose order is told, and whether a level is there."""
    if order == 0:
        return best, reached or inside
    return (height, inside) if order > 0 else (best, reached)


def candidates(told, tank):
    """Return tuples (form, spot, inside) of all spots at which the level may be greatest, or come to it.

    The spots are the ends of the ranges, 0 and None too, and where the level turns; one within each range is told
    besides, as a level that is even there turns nowhere.
    """
    found = []
    for _, forms, widths in told:
        form = forms[tank]
        turning = turning_places(form)
        for stretch in widths:
            low, low_in, high, high_in = stretch
            spots = [(low, low_in), (high, high_in), (simplest_of(stretch), True)]
            spots = spots + [(place, True) for place in turning if side(stretch, place) == 0]
            found = found + [(form, spot, inside) for spot, inside in spots]
    return found


def height_at(form, spot):
    """Return what a form is at a fraction, or comes to at 0 or beyond all widths; None beyond all bounds."""
    if spot is None:
        return far_off(form)
    return near_zero(form) if spot[0] == 0 else form_at(form, spot)


def order_at(form, place, height):
    """Return -1, 0 or 1 if a form is, at a place, below a height, on or above it."""
    return sign_at_place(crossed(form, constant(height)), place)


def fraction_at(form, root):
    """Return the fraction that a form, nowhere below 0, is at a root, None if it is none there."""
    top, bottom = form
    told = quotient(root[1], common_factor(root[1], bottom))
    # A fraction h which the form is at a root is a root itself of the resultant of `told` and top - h * bottom,
    # whose last number, as one of a polynomial of h, is this one; so it is divided by what h has below.
    scale = resultant(told, bottom) * power(abs(told[-1]), max(0, len(top) - len(bottom)))
    low, high = root[2], root[3]
    least, most = bounds(form, low, high)
    while most is None or order_of_fractions(less(most, least), (1, scale)) >= 0:
        low, high = halved(told, low, high)
        least, most = bounds(form, low, high)
    spot = fraction(-(-least[0] * scale // least[1]), scale)
    return spot if order_at(form, root, spot) == 0 else None


def bounds(form, low, high):
    """Return fractions that a form, nowhere below 0, is not below and not above between two; None for no bound."""
    top, bottom = form
    under, over = least_of(bottom, low, high), most_of(bottom, low, high)
    if under[0] <= 0:
        return (0, 1), None
    least, most = least_of(top, low, high), most_of(top, low, high)
    return fraction(max(0, least[0]) * over[1], least[1] * over[0]), fraction(most[0] * under[1], most[1] * under[0])


def least_of(one, low, high):
    """Return a fraction that a polynomial is not below between two fractions from 0 on."""
    ups, downs = [max(0, number) for number in one], [max(0, -number) for number in one]
    return less(value_at(ups, low), value_at(downs, high))


def most_of(one, low, high):
    """Return a fraction that a polynomial is not above between two fractions from 0 on."""
    return less((0, 1), least_of(negated(one), low, high))


def halved(told, low, high):
    """Return the half between two fractions in which the only root there of a polynomial lies, no fraction."""
    middle = midpoint(low, high)
    if sign_at_fraction(told, middle) == sign_at_fraction(told, low):
        return middle, high
    return low, middle
