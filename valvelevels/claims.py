"""Claims of levels, at the end of a script or of any of its ways."""

from valvelevels.checks import check_fraction, copied
from valvelevels.errors import InvalidClaim
from valvelevels.forms import constant, difference
from valvelevels.plans import check_numbers
from valvelevels.regions import where
from valvelevels.stretches import overlap_of, union_of

# The signs of a level, less the other one or less the height, with which a claim holds.
CLAIMS = {"above": (1,), "even": (0,), "below": (-1,), "not above": (-1, 0), "not over": (-1, 0)}


def check_claim(claim, many):
    """Raise an error if something is no claim of that many tanks."""
    if len(claim) != 3 or not isinstance(claim[0], str) or claim[0] not in CLAIMS:
        raise InvalidClaim(copied(claim))
    word, tank, other = claim
    check_numbers([tank] if word == "not over" else [tank, other], many)
    if word == "not over":
        check_fraction(other)


def difference_in(forms, claim):
    """Return the form of the level of the first tank of a claim, less that of the other one or the height."""
    word, tank, other = claim
    return difference(forms[tank], constant(other) if word == "not over" else forms[other])


def widths_with(told, claim, signs):
    """Return the set of the widths, of all ways of a script, at which the difference in a claim has some signs."""
    found = []
    for _, forms, widths in told:
        top, _ = difference_in(forms, claim)
        found = found + overlap_of(widths, where(top, signs))
    return union_of(found)


def widths_that_keep(told, claim):
    """Return the set of the widths, of all ways of a script, at which a claim holds."""
    return widths_with(told, claim, CLAIMS[claim[0]])


def widths_that_break(told, claim):
    """Return the set of the widths, of all ways of a script, at which a claim does not hold."""
    return widths_with(told, claim, [sign for sign in (-1, 0, 1) if sign not in CLAIMS[claim[0]]])
