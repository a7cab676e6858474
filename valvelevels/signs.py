"""At which widths levels at the end of a script stand as somebody says, and claims of it."""

from valvelevels.checks import check_fraction
from valvelevels.claims import check_claim, widths_that_break, widths_that_keep
from valvelevels.courses import courses_of, widths_over, widths_running
from valvelevels.errors import UnknownStep
from valvelevels.heights import highest_of
from valvelevels.plans import check_index, check_numbers
from valvelevels.stretches import simplest_in


def above(plan, one, other):
    """Return the set of the widths at which the level of the one tank is above that of the other one."""
    check_numbers([one, other], len(plan.tanks))
    return widths_that_keep(courses_of(plan), ("above", one, other))


def even(plan, one, other):
    """Return the set of the widths at which the levels of two tanks are even."""
    check_numbers([one, other], len(plan.tanks))
    return widths_that_keep(courses_of(plan), ("even", one, other))


def over(plan, tank, height):
    """Return the set of the widths at which the level of a tank is above a height."""
    check_numbers([tank], len(plan.tanks))
    check_fraction(height)
    return widths_that_break(courses_of(plan), ("not over", tank, height))


def runs_in(plan, index, tank):
    """Return the set of the widths at which a step is done, opens a valve, and lets water run into a tank."""
    check_numbers([tank], len(plan.tanks))
    check_index(index, len(plan))
    step = plan[index]
    if step[0] != "open":
        raise UnknownStep(index)
    return widths_running(plan, index, tank) if tank in step[1] else []


def over_by(plan, index):
    """Return the set of the widths at which a script is over by an `unless`."""
    check_index(index, len(plan))
    if plan[index][0] != "unless":
        raise UnknownStep(index)
    return widths_over(courses_of(plan), index)


def highest(plan, tank):
    """Return the least height that no level of a tank is above, and whether one is there; None if it is none."""
    check_numbers([tank], len(plan.tanks))
    return highest_of(courses_of(plan), tank)


def holds(plan, claim):
    """Return True if a claim holds at each width, otherwise False."""
    check_claim(claim, len(plan.tanks))
    return not widths_that_break(courses_of(plan), claim)


def broken(plan, claim):
    """Return the simplest place at which a claim does not hold, None if there is none."""
    check_claim(claim, len(plan.tanks))
    return simplest_in(widths_that_break(courses_of(plan), claim))
