"""Sets of places at which polynomials and forms have told signs."""

from valvelevels.algebra import sign_at_fraction
from valvelevels.spots import places_of, sign_at_place
from valvelevels.stretches import ALL, gathered, simplest_of


def between(low, high):
    """Return the simplest fraction between two ends."""
    return simplest_of((low, False, high, False))


def where(one, signs):
    """Return the set of the places at which a polynomial has one of some signs."""
    if not one:
        return [ALL] if 0 in signs else []
    ends = [(0, 1)] + places_of(one) + [None]
    cells = []
    for k, end in enumerate(ends[:-1]):
        spot = between(end, ends[k + 1])
        cells = cells + [k > 0 and 0 in signs, sign_at_fraction(one, spot) in signs]
    return gathered(cells + [False, False], ends)


def is_zero_in(one, told):
    """Return True if a polynomial is 0 at each place of a set."""
    if not one:
        return True
    # One that is not 0 is 0 at finitely many places only, as no range is but a single place.
    return all([stretch[0] == stretch[2] and sign_at_place(one, stretch[0]) == 0 for stretch in told])
