"""Where the level of a tank rises, falls and stands still, for greater and greater widths."""

from valvelevels.bends import goes_one_way, peaks_of, widths_going
from valvelevels.plans import check_no_unless, check_numbers


def rising(plan, tank):
    """Return the set of the places around which the level of a tank is greater at each greater place."""
    check_numbers([tank], len(plan.tanks))
    return widths_going(plan, tank, 1)


def falling(plan, tank):
    """Return the set of the places around which the level of a tank is less at each greater place."""
    check_numbers([tank], len(plan.tanks))
    return widths_going(plan, tank, -1)


def still(plan, tank):
    """Return the set of the places around which the level of a tank is the same."""
    check_numbers([tank], len(plan.tanks))
    return widths_going(plan, tank, 0)


def peaks(plan, tank):
    """Return the places around which the level of a tank is less at each other place, ascending."""
    check_numbers([tank], len(plan.tanks))
    return peaks_of(plan, tank)


def tells_width(plan, tank):
    """Return True if the level of a tank is the same at no two places, otherwise False."""
    check_no_unless(plan)
    check_numbers([tank], len(plan.tanks))
    # Without `unless` a level has no leaps, so it comes back to what it was only if it turns or stands still.
    return goes_one_way(plan, tank)
