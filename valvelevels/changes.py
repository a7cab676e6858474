"""Scripts that do the same, where others do not, and steps that can be left out or exchanged."""

from valvelevels.checks import copied
from valvelevels.courses import courses_of, shared_ways
from valvelevels.errors import InvalidTank
from valvelevels.forms import crossed, gap
from valvelevels.plans import check_exchange
from valvelevels.regions import is_zero_in, where
from valvelevels.scripts import Script
from valvelevels.stretches import overlap_of, simplest_in, union_of
from valvelevels.subsets import sets_of


def alike(one, other):
    """Return True if two scripts do the same at every width, otherwise False."""
    check_same_tanks(one.tanks, other.tanks)
    return are_alike(courses_of(one), courses_of(other))


def unlike(one, other):
    """Return the set of the widths at which two scripts do not do the same."""
    check_same_tanks(one.tanks, other.tanks)
    return widths_apart(courses_of(one), courses_of(other))


def first_unlike(one, other):
    """Return the simplest place at which two scripts do not do the same, None if there is none."""
    return simplest_in(unlike(one, other))


def needless(plan):
    """Return the indexes of the steps without which, one at a time, a script does the same at every width."""
    told = courses_of(plan)
    return [k for k in range(len(plan)) if are_alike(told, courses_of(plan.without(k)))]


def least_sets(plan):
    """Return the sets of steps which alone do the same as a script, without those that have such a part."""
    told, found = courses_of(plan), []
    for chosen in sets_of(len(plan)):
        has_part = any([all([k in chosen for k in part]) for part in found])
        if not has_part and are_alike(told, courses_of(Script(plan.tanks, [plan[k] for k in chosen]))):
            found = found + [chosen]
    return found


def may_exchange(plan, index):
    """Return True if a script does the same at every width with a step and the next one exchanged."""
    check_exchange(index, len(plan))
    return alike(plan, plan.exchanged(index))


def check_same_tanks(one, other):
    """Raise an error for the first of some tanks that does not stand there too, then for one that stands behind."""
    for k, tank in enumerate(one):
        if k >= len(other) or other[k] != tank:
            raise InvalidTank(copied(tank))
    if len(other) > len(one):
        raise InvalidTank(copied(other[len(one)]))


def are_alike(one, other):
    """Return True if, in all ways of two scripts, the levels are the same."""
    for mine, yours, widths in shared_ways(one, other):
        if not all([is_zero_in(crossed(form, yours[k]), widths) for k, form in enumerate(mine)]):
            return False
    return True


def widths_apart(one, other):
    """Return the set of the widths at which, in all ways of two scripts, levels are not the same."""
    found = []
    for mine, yours, widths in shared_ways(one, other):
        for k, form in enumerate(mine):
            found = found + overlap_of(widths, where(gap(form, yours[k]), (-1, 1)))
    return union_of(found)
