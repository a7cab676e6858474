"""The ways that scripts go: for all widths at once, by which `unless` they are over, and the levels then."""

from valvelevels.flows import after, ahead, first_water, inflow, levels, unknown_widths
from valvelevels.regions import where
from valvelevels.stretches import ALL, difference_of, overlap_of, union_of


def courses_of(plan):
    """Return the tuples (index, forms, widths) of all ways that come about, by their indexes, None last."""
    tanks, left, found = plan.tanks, [ALL], []
    widths, water = unknown_widths(tanks), first_water(tanks)
    for index, step in enumerate(plan.steps):
        water = after(step, water, widths)
        if step[0] == "unless":
            over = overlap_of(left, where(ahead(step, water, widths), (1,)))
            left = difference_of(left, over)
            if over:
                found = found + [(index, levels(water, widths, 1), over)]
    return found + [(None, levels(water, widths, 1), left)] if left else found


def shared_ways(one, other):
    """Return tuples (forms, others, widths) of all pairs of ways of two scripts that have widths in common."""
    pairs = [(mine, yours, overlap_of(widths, stretches)) for _, mine, widths in one for _, yours, stretches in other]
    return [pair for pair in pairs if pair[2]]


def widths_done(told, index):
    """Return the set of the widths at which a step that is no `unless` is done, by all ways of its script."""
    return union_of([stretch for over, _, widths in told if over is None or over > index for stretch in widths])


def widths_over(told, index):
    """Return the set of the widths at which a script is over by one `unless`, by all its ways."""
    return [stretch for over, _, widths in told if over == index for stretch in widths]


def widths_running(plan, index, tank):
    """Return the set of the widths at which a step that opens a tank is done, and lets water run into it."""
    tanks, steps = plan.tanks, plan.steps
    widths, water = unknown_widths(tanks), first_water(tanks)
    for step in steps[:index]:
        water = after(step, water, widths)
    running = where(inflow(steps[index], tank, water, widths), (1,))
    return overlap_of(widths_done(courses_of(plan), index), running)
