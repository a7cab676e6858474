"""Which script of a list is best, where it should leave the level of a tank as high as can be."""

from valvelevels.checks import check_ranges
from valvelevels.courses import courses_of, shared_ways
from valvelevels.forms import gap
from valvelevels.looks import parted_by
from valvelevels.plans import check_numbers
from valvelevels.regions import where
from valvelevels.stretches import ALL, cells_of, difference_of, overlap_of
from valvelevels.subsets import sets_of


def best(plans, tank):
    """Return, for each script of a list, the set of the places at which the level of a tank is highest behind it."""
    check_tank(plans, tank)
    told = [courses_of(plan) for plan in plans]
    return [best_of(told, number, tank) for number in range(len(plans))]


def fewest(plans, tank):
    """Return the shortest list of indexes such that at each place one of these scripts is best."""
    ends, cells = cells_of(best(plans, tank))
    # Neither 0, which comes first, nor what is beyond all widths, which comes last, is a place.
    spots = range(1, 2 * len(ends) - 2)
    covering = [chosen for chosen in sets_of(len(plans)) if all([any([cells[k][at] for k in chosen]) for at in spots])]
    return covering[0]


def choose(plans, known, tank):
    """Return the index of the first script that is best at each place of a known set, None if there is none."""
    check_tank(plans, tank)
    check_ranges(known)
    return first_best(best(plans, tank), known)


def advice(plans, known, look, one, other, tank):
    """Return tuples (word, index) of what may be seen behind a script, and which script is to be chosen then."""
    check_tank(plans, tank)
    check_numbers([one, other], len(look.tanks))
    check_ranges(known)
    told = best(plans, tank)
    return [(word, first_best(told, places)) for word, places in parted_by(courses_of(look), known, one, other)]


def check_tank(plans, tank):
    """Raise an error if some script does not have a tank."""
    for plan in plans:
        check_numbers([tank], len(plan.tanks))


def best_of(told, number, tank):
    """Return the set of the places at which a level is not below that of any other one, by all ways of the scripts."""
    left = [ALL]
    for k, other in enumerate(told):
        if k != number:
            left = overlap_of(left, not_below(told[number], other, tank))
    return left


def not_below(one, other, tank):
    """Return ranges of all places at which a level is not below that of another script, by all ways of both."""
    found = []
    for mine, yours, widths in shared_ways(one, other):
        found = found + overlap_of(widths, where(gap(mine[tank], yours[tank]), (0, 1)))
    return found


def first_best(told, known):
    """Return the index of the first set of a list in which all of a known set lies, None if there is none."""
    fits = [k for k, places in enumerate(told) if not difference_of(known, places)]
    return fits[0] if fits else None
