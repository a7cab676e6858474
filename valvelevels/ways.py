"""What a script does: at one width, and in all the ways that come about."""

from valvelevels.checks import check_width
from valvelevels.courses import courses_of
from valvelevels.errors import InvalidRange
from valvelevels.flows import run_of
from valvelevels.forms import crossed, form_at
from valvelevels.regions import is_zero_in
from valvelevels.stretches import is_parted, lies_in, overlap_of


def run(plan, width):
    """Return what a script does at a width: the index of the `unless` by which it is over, and the levels."""
    check_width(width)
    return run_of(plan.tanks, plan.steps, width)


def ways(plan):
    """Return the tuples (index, forms, widths) of all ways of a script that come about at some place."""
    return courses_of(plan)


def way_at(told, width):
    """Return, at a width, the index and the levels of a list of ways, whose ranges have no common places."""
    check_width(width)
    for index, forms, widths in told:
        if lies_in(widths, width):
            return index, [form_at(form, width) for form in forms]
    raise InvalidRange(width)


def judge_ways(plan, told):
    """Return True if a list of ways says of each place, once, what a script does there, otherwise False."""
    many = len(plan.tanks)
    if not all([len(forms) == many for _, forms, _ in told]):
        return False
    if not is_parted([stretch for _, _, widths in told for stretch in widths]):
        return False
    found = courses_of(plan)
    return all([agree(one, other) for one in told for other in found])


def agree(one, other):
    """Return True if two ways say the same at each place that they have in common."""
    common = overlap_of(one[2], other[2])
    if not common:
        return True
    if one[0] != other[0]:
        return False
    return all([is_zero_in(crossed(form, other[1][k]), common) for k, form in enumerate(one[1])])
