"""What scripts do at widths that are as small, or as great, as one likes."""

from valvelevels.courses import courses_of
from valvelevels.forms import far_off, near_zero
from valvelevels.spots import copied_place


def small(plan):
    """Return what the levels come to as the width comes to 0, None where one grows beyond all bounds."""
    _, forms, _ = smallest_course(plan)
    return [near_zero(form) for form in forms]


def great(plan):
    """Return what the levels come to as the width grows beyond all bounds."""
    _, forms, _ = greatest_course(plan)
    return [far_off(form) for form in forms]


def small_way(plan):
    """Return the index of the `unless` by which a script is over for all small widths, None if it is not."""
    return smallest_course(plan)[0]


def great_way(plan):
    """Return the index of the `unless` by which a script is over for all great widths, None if it is not."""
    return greatest_course(plan)[0]


def from_where(plan):
    """Return the greatest place below which, and the least one above which, a script goes in one way."""
    below, above = smallest_course(plan)[2][0], greatest_course(plan)[2][-1]
    if below[2] is None:
        return None, None
    return copied_place(below[2]), copied_place(above[0])


def smallest_course(plan):
    """Return the way of a script for all small widths."""
    told = courses_of(plan)
    return [way for way in told if way[2][0][0] == (0, 1)][0]


def greatest_course(plan):
    """Return the way of a script for all great widths."""
    told = courses_of(plan)
    return [way for way in told if way[2][-1][2] is None][0]
