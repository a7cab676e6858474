"""What steps do to the water of tanks.

The widths are polynomials, so that all of this goes for an unknown width as well as for a told one. The water is a
tuple (amounts, whole): what stands in each tank is its polynomial by one that they have in common, so that nothing
needs to be divided until a level is told.
"""

from valvelevels.algebra import added, cut, multiplied, negated, sign_at_fraction
from valvelevels.forms import reduced


def unknown_widths(tanks):
    """Return the widths of tanks as polynomials of the unknown one."""
    return [[0, 1] if width is None else [width] for width, _ in tanks]


def told_widths(tanks, spot):
    """Return the widths of tanks, the unknown one a told fraction, times what is below in this fraction."""
    above, below = spot
    return [[above] if width is None else [width * below] for width, _ in tanks]


def first_water(tanks):
    """Return the water of tanks ahead of all steps."""
    return [cut([amount]) for _, amount in tanks], [1]


def sum_of(told):
    """Return the sum of some polynomials."""
    total = []
    for one in told:
        total = added(total, one)
    return total


def together(tanks, amounts, widths):
    """Return the amount of all water in some tanks, and the width of all of them."""
    return sum_of([amounts[k] for k in tanks]), sum_of([widths[k] for k in tanks])


def after(step, water, widths):
    """Return the water behind a step, which an `unless` leaves as it is."""
    word = step[0]
    if word == "open":
        return opened(step[1], water, widths)
    if word == "pour":
        return poured(step[1], step[2], water)
    if word == "scoop":
        return taken(step[1], None, step[2], water)
    if word == "move":
        return taken(step[1], step[2], step[3], water)
    return water


def opened(tanks, water, widths):
    """Return the water when the levels of some tanks have become even."""
    amounts, whole = water
    total, width = together(tanks, amounts, widths)
    found = [multiplied(total, widths[k]) if k in tanks else multiplied(one, width) for k, one in enumerate(amounts)]
    return found, multiplied(whole, width)


def poured(tank, amount, water):
    """Return the water when an amount has been put into a tank."""
    amounts, whole = water
    poured_in = multiplied(cut([amount]), whole)
    return [added(one, poured_in) if k == tank else one for k, one in enumerate(amounts)], whole


def taken(tank, other, part, water):
    """Return the water when a part of that of a tank has been put into another one, away if this is None."""
    amounts, whole = water
    above, below = part
    found = [multiplied(one, [below]) for one in amounts]
    found[tank] = multiplied(amounts[tank], cut([below - above]))
    if other is not None:
        found[other] = added(found[other], multiplied(amounts[tank], cut([above])))
    return found, multiplied(whole, [below])


def lead(amount, width, other, other_width, whole):
    """Return a polynomial with the sign of the level of an amount less that of another one."""
    told = added(multiplied(amount, other_width), negated(multiplied(other, width)))
    # Factors that it shares with what is above 0 anyway would only make the roots long.
    return reduced(told, multiplied(whole, multiplied(width, other_width)))[0]


def ahead(step, water, widths):
    """Return a polynomial with the sign of the level of the first tank of an `unless` less that of the other one."""
    amounts, whole = water
    _, one, other = step
    return lead(amounts[one], widths[one], amounts[other], widths[other], whole)


def inflow(step, tank, water, widths):
    """Return a polynomial that is above 0 where a step that opens a tank lets water run into it."""
    amounts, whole = water
    total, width = together(step[1], amounts, widths)
    return lead(total, width, amounts[tank], widths[tank], whole)


def levels(water, widths, scale):
    """Return the forms of the levels of all tanks, where the widths are told times a scale."""
    amounts, whole = water
    return [reduced(multiplied(one, [scale]), multiplied(whole, widths[k])) for k, one in enumerate(amounts)]


def number_of(form):
    """Return the fraction that a form is which has no unknown width in it."""
    top, bottom = form
    return (top[0] if top else 0, bottom[0])


def is_ended(step, water, widths):
    """Return True if, at a told width, a script is over by a step."""
    return step[0] == "unless" and sign_at_fraction(ahead(step, water, widths), (1, 1)) > 0


def told_levels(water, widths, spot):
    """Return the levels of all tanks at a told width, fractions."""
    return [number_of(form) for form in levels(water, widths, spot[1])]


def all_water(water):
    """Return the amount of all water at a told width, a fraction."""
    amounts, whole = water
    return number_of(reduced(sum_of(amounts), whole))


def run_of(tanks, steps, spot):
    """Return what a script does at a width: by which `unless` it is over, or None, and the levels."""
    widths, water = told_widths(tanks, spot), first_water(tanks)
    for index, step in enumerate(steps):
        if is_ended(step, water, widths):
            return index, told_levels(water, widths, spot)
        water = after(step, water, widths)
    return None, told_levels(water, widths, spot)
