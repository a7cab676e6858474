"""Papers: rows of rests by which anybody can judge that a polynomial has one sign at all widths."""

from valvelevels.algebra import multiplied, plain_of, primitive, sign_at_fraction
from valvelevels.checks import check_not_zero, check_polynomials
from valvelevels.claims import check_claim, difference_in
from valvelevels.courses import courses_of
from valvelevels.plans import check_no_unless
from valvelevels.rows import row_of, turns_of


def paper(one, word):
    """Return the row of rests that shows the sign of a polynomial, None if it has another one at some width."""
    check_polynomials([one])
    check_not_zero(one)
    told = row_of(plain_of(one))
    return told if has_no_roots(told) and has_sign(one, word) else None


def judge_paper(one, word, told):
    """Return True if a list of polynomials shows that a polynomial has the sign of a word, otherwise False."""
    check_polynomials([one] + told)
    check_not_zero(one)
    # Rests of polynomials that are told times numbers above 0 are those of the row itself, times such numbers.
    right = row_of(plain_of(one))
    if [primitive(part) for part in told] != [primitive(part) for part in right]:
        return False
    return has_no_roots(told) and has_sign(one, word)


def has_no_roots(told):
    """Return True if a row has as many turns at 0 as beyond all widths."""
    return turns_of(told, (0, 1)) == turns_of(told, None)


def has_sign(one, word):
    """Return True if a polynomial has the sign of a word at the width 1."""
    return sign_at_fraction(one, (1, 1)) == (1 if word == "above" else -1)


def claim_polynomial(plan, claim):
    """Return the polynomial on whose sign alone a claim hangs, for a script without `unless`."""
    check_no_unless(plan)
    check_claim(claim, len(plan.tanks))
    # A script without `unless` has one way.
    _, forms, _ = courses_of(plan)[0]
    top, bottom = difference_in(forms, claim)
    return multiplied(top, bottom)
