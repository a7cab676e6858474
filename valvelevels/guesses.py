"""What the unknown width may be, by what was seen at the ends of scripts."""

from valvelevels.checks import check_ranges, copied
from valvelevels.claims import widths_that_keep
from valvelevels.courses import courses_of
from valvelevels.errors import InvalidRange
from valvelevels.looks import check_word, parted_by
from valvelevels.plans import check_numbers
from valvelevels.stretches import ALL, overlap_of


def fitting(plan, seen):
    """Return the set of the widths with which all is as it was seen at the end of a script."""
    return told_back([plan], [seen])


def told_back(plans, seen):
    """Return the set of the widths with which all is as it was seen of each script of a list."""
    check_seen(plans, seen)
    left = [ALL]
    for plan, looks in zip(plans, seen):
        told = courses_of(plan)
        for one, word, other in looks:
            left = overlap_of(left, widths_that_keep(told, (word, one, other)))
    return left


def tells_most(plans, known, one, other):
    """Return the index of the first script that parts a known set into the most sets by a look at two tanks."""
    for plan in plans:
        check_numbers([one, other], len(plan.tanks))
    check_ranges(known)
    if not known or not plans:
        raise InvalidRange(copied(known))
    parts = [len(parted_by(courses_of(plan), known, one, other)) for plan in plans]
    return parts.index(max(parts))


def check_seen(plans, seen):
    """Raise an error for the first tank that there is not, then for the first word that is none."""
    for plan, looks in zip(plans, seen):
        for one, _, other in looks:
            check_numbers([one, other], len(plan.tanks))
    for looks in seen:
        for _, word, _ in looks:
            check_word(word)
