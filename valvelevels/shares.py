"""What each amount adds to a level at the end of a script without `unless`, and what amount is enough."""

from valvelevels.checks import check_fraction
from valvelevels.courses import courses_of
from valvelevels.errors import UnknownStep
from valvelevels.forms import constant, difference
from valvelevels.needs import least_amount
from valvelevels.plans import check_no_unless, check_numbers
from valvelevels.scripts import Script


def shares(plan, tank):
    """Return the forms of the level of a tank if just one amount is 1: those of the tanks, then of the pours."""
    check_no_unless(plan)
    check_numbers([tank], len(plan.tanks))
    many = len(amounts_of(plan))
    return [level_with(plan, unit(number, many), tank) for number in range(many)]


def enough(plan, index, tank, height):
    """Return the least amount of a pour with which the level of a tank is at no width below a height, or None."""
    check_no_unless(plan)
    check_numbers([tank], len(plan.tanks))
    check_pour(plan, index)
    check_fraction(height)
    amounts, number = amounts_of(plan), number_of_pour(plan, index)
    share = level_with(plan, unit(number, len(amounts)), tank)
    left = level_with(plan, amounts[:number] + [0] + amounts[number + 1:], tank)
    return least_amount(difference(constant(height), left), share)


def check_pour(plan, index):
    """Raise an error if an index is none of a step that pours."""
    # Where there is no step with an index at all, the script itself raises the error.
    if plan[index][0] != "pour":
        raise UnknownStep(index)


def unit(number, many):
    """Return a list of that many amounts, all 0 but one, which is 1."""
    return [1 if k == number else 0 for k in range(many)]


def amounts_of(plan):
    """Return the amounts of the tanks of a script, then those of its pours, in order."""
    return [amount for _, amount in plan.tanks] + [step[2] for step in plan.steps if step[0] == "pour"]


def number_of_pour(plan, index):
    """Return where the amount of a pour stands among all amounts of a script."""
    ahead = [step for step in plan.steps[:index] if step[0] == "pour"]
    return len(plan.tanks) + len(ahead)


def level_with(plan, amounts, tank):
    """Return the form of the level of a tank at the end of a script without `unless`, with other amounts."""
    tanks = [(width, amounts[k]) for k, (width, _) in enumerate(plan.tanks)]
    steps = [step[:2] + (amounts[number_of_pour(plan, k)],) if step[0] == "pour" else step
             for k, step in enumerate(plan.steps)]
    # A script without `unless` has one way.
    _, forms, _ = courses_of(Script(tanks, steps))[0]
    return forms[tank]
