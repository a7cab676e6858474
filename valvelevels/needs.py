"""How much of a share is enough for what is lacking."""

from valvelevels.algebra import multiplied
from valvelevels.forms import constant, crossed, far_off, near_zero, reduced, turning_places
from valvelevels.regions import where
from valvelevels.spots import sign_at_place


def least_amount(lack, share):
    """Return the least integer, from 0 on, as many times which a share is at no place below what is lacking.

    None if there is none. The share is a form that is above 0 at all places, or 0 at all of them.
    """
    if not share[0]:
        return None if where(lack[0], (1,)) else 0
    need = reduced(multiplied(lack[0], share[1]), multiplied(lack[1], share[0]))
    if grows(need):
        return None
    limits = [spot for spot in (near_zero(need), far_off(need)) if spot is not None]
    return first_bound(need, turning_places(need), max([0] + [ceiling(spot) for spot in limits]))


def grows(form):
    """Return True if a form grows beyond all bounds as the width comes to 0, or as that grows likewise."""
    top, bottom = form
    small = near_zero(form) is None and top[0] > 0
    return small or (far_off(form) is None and top[-1] > 0)


def ceiling(spot):
    """Return the least integer that is not below a fraction."""
    return -(-spot[0] // spot[1])


def first_bound(form, places, least):
    """Return the first integer, from one on, that a form is above at none of some places."""
    if is_bound(form, places, least):
        return least
    few, many = least, 2 * least + 1
    while not is_bound(form, places, many):
        few, many = many, 2 * many
    while many - few > 1:
        middle = (few + many) // 2
        if is_bound(form, places, middle):
            many = middle
        else:
            few = middle
    return many


def is_bound(form, places, number):
    """Return True if a form is above an integer at none of some places."""
    above = crossed(form, constant((number, 1)))
    return all([sign_at_place(above, place) <= 0 for place in places])
