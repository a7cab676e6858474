"""Forms: tuples (top, bottom) of polynomials that stand for top by bottom, the bottom above 0 at all places."""

from math import gcd

from valvelevels.algebra import (
    added, common_factor, content, cut, fraction, multiplied, negated, quotient, slope, value_at)
from valvelevels.spots import places_of


def reduced(top, bottom):
    """Return the form of top by bottom, whose last number is above 0, in lowest terms."""
    if not top:
        return [], [1]
    factor = common_factor(top, bottom)
    above, below = quotient(top, factor), quotient(bottom, factor)
    number = gcd(content(above), content(below))
    return [part // number for part in above], [part // number for part in below]


def constant(spot):
    """Return the form of a fraction."""
    return cut([spot[0]]), [spot[1]]


def crossed(one, other):
    """Return a polynomial that is above 0, 0 or below 0 where the one form is above, on or below the other one."""
    return added(multiplied(one[0], other[1]), negated(multiplied(other[0], one[1])))


def difference(one, other):
    """Return the form of the one form less the other one."""
    return reduced(crossed(one, other), multiplied(one[1], other[1]))


def gap(one, other):
    """Return the top of the one form less the other one, which has its sign at all places."""
    return difference(one, other)[0]


def form_at(form, spot):
    """Return what a form, of any two polynomials, is at a fraction at which its bottom is not 0."""
    above, below = value_at(form[0], spot), value_at(form[1], spot)
    if below[0] < 0:
        return fraction(-above[0] * below[1], -above[1] * below[0])
    return fraction(above[0] * below[1], above[1] * below[0])


def near_zero(form):
    """Return what a form comes to as the width comes to 0, None if it grows beyond all bounds."""
    top, bottom = form
    if not top:
        return (0, 1)
    return None if bottom[0] == 0 else fraction(top[0], bottom[0])


def far_off(form):
    """Return what a form comes to as the width grows beyond all bounds, None if it grows likewise."""
    top, bottom = form
    if len(top) < len(bottom):
        return (0, 1)
    return None if len(top) > len(bottom) else fraction(top[-1], bottom[-1])


def slope_of_form(form):
    """Return a polynomial that is above 0 where a form rises, and below 0 where it falls."""
    top, bottom = form
    return added(multiplied(slope(top), bottom), negated(multiplied(top, slope(bottom))))


def turning_places(form):
    """Return the places at which a form may turn, ascending; none of one that is the same everywhere."""
    told = slope_of_form(form)
    return places_of(told) if told else []
