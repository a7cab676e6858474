"""The course of one level for greater and greater widths: stretches on which it goes one way, and what is between.

A trend is 1 where a level rises, -1 where it falls and 0 where it stands still.
"""

from valvelevels.algebra import sign_at_fraction
from valvelevels.courses import courses_of
from valvelevels.forms import crossed, slope_of_form, turning_places
from valvelevels.regions import between
from valvelevels.spots import copied_place, sign_at_place
from valvelevels.stretches import ALL, ends_of, lies_in, ranked, union_of


def profile_of(plan, tank):
    """Return the cells (low, high, trend) of a level, and the bends (place, before, into, out, behind) between.

    Of a bend the trends before it and behind it are told, and whether the level leaps up or down into what it is at
    the place, and out of it.
    """
    told = courses_of(plan)
    ends = ends_of_level(told, tank)
    cells, bends, last = [], [], None
    for k, low in enumerate(ends[:-1]):
        spot = between(low, ends[k + 1])
        form = form_with(told, tank, spot)
        trend = sign_at_fraction(slope_of_form(form), spot)
        if k > 0:
            own = form_with(told, tank, low)
            into, out = sign_at_place(crossed(own, last), low), sign_at_place(crossed(form, own), low)
            bends = bends + [(low, cells[-1][2], into, out, trend)]
        cells = cells + [(low, ends[k + 1], trend)]
        last = form
    return cells, bends


def ends_of_level(told, tank):
    """Return 0, the places at which a level may turn or go on in another way, ascending, and None."""
    ends = ends_of([ALL])
    for _, forms, widths in told:
        ends = ends + ends_of(widths) + turning_places(forms[tank])
    return ranked(ends)[0]


def form_with(told, tank, place):
    """Return the form of a level at a place."""
    return [forms[tank] for _, forms, widths in told if lies_in(widths, place)][0]


def widths_going(plan, tank, trend):
    """Return the set of the places around which a level has a trend."""
    cells, bends = profile_of(plan, tank)
    found = [(low, False, high, False) for low, high, way in cells if way == trend]
    for place, before, into, out, behind in bends:
        # A level that leaps up while it rises is still greater at each greater place.
        if before == trend and behind == trend and into in (0, trend) and out in (0, trend):
            found = found + [(place, True, place, True)]
    return union_of(found)


def peaks_of(plan, tank):
    """Return the places around which a level is less at each other place, ascending."""
    found = []
    for place, before, into, out, behind in profile_of(plan, tank)[1]:
        up, down = into == 1 or (into == 0 and before == 1), out == -1 or (out == 0 and behind == -1)
        if up and down:
            found = found + [copied_place(place)]
    return found


def goes_one_way(plan, tank):
    """Return True if a level rises everywhere, or falls everywhere, but for single places."""
    trends = [trend for _, _, trend in profile_of(plan, tank)[0]]
    return trends[0] != 0 and all([trend == trends[0] for trend in trends])
