"""What tanks, steps and their numbers are, and the errors for what is none."""

from valvelevels.algebra import order_of_fractions
from valvelevels.checks import copied, is_fraction, is_integer
from valvelevels.errors import InvalidFraction, InvalidStep, InvalidTank, UnknownStep, UnknownTank

# How many things each step has, its word counted.
THINGS = {"open": 2, "pour": 3, "scoop": 3, "move": 4, "unless": 3}


def is_amount(thing):
    """Return True for an integer from 0 on."""
    return is_integer(thing) and thing >= 0


def is_tank(thing):
    """Return True for a tuple of a width, None if that is unknown, and an amount."""
    if not isinstance(thing, tuple) or len(thing) != 2:
        return False
    width, amount = thing
    return (width is None or (is_integer(width) and width >= 1)) and is_amount(amount)


def check_tanks(tanks):
    """Raise an error for the first of some tanks that is none, or if not just one width is unknown."""
    for tank in tanks:
        if not is_tank(tank):
            raise InvalidTank(copied(tank))
    if len([tank for tank in tanks if tank[0] is None]) != 1:
        raise InvalidTank(None)


def is_ascending(told):
    """Return True for a list of at least two ascending integers."""
    if not isinstance(told, list) or len(told) < 2 or not all([is_integer(number) for number in told]):
        return False
    return all([told[k] < told[k + 1] for k in range(len(told) - 1)])


def is_step(thing):
    """Return True for a step, whatever its tanks and its part are."""
    if not isinstance(thing, tuple) or not thing or not isinstance(thing[0], str) or thing[0] not in THINGS:
        return False
    word = thing[0]
    if len(thing) != THINGS[word]:
        return False
    if word == "open":
        return is_ascending(thing[1])
    if word == "pour":
        return is_amount(thing[2])
    return word == "scoop" or thing[1] != thing[2]


def tanks_of(step):
    """Return the numbers of the tanks of a step, in their order."""
    if step[0] == "open":
        return step[1]
    return [step[1], step[2]] if step[0] in ("move", "unless") else [step[1]]


def check_numbers(numbers, many):
    """Raise an error for the first of some numbers that is none of that many tanks."""
    for number in numbers:
        if not is_amount(number) or number >= many:
            raise UnknownTank(copied(number))


def check_part(part):
    """Raise an error if something is no fraction from 0 to 1."""
    if not is_fraction(part) or part[0] < 0 or order_of_fractions(part, (1, 1)) > 0:
        raise InvalidFraction(copied(part))


def check_step(step, many):
    """Raise an error if something is no step for that many tanks."""
    if not is_step(step):
        raise InvalidStep(copied(step))
    check_numbers(tanks_of(step), many)
    if step[0] in ("scoop", "move"):
        check_part(step[-1])


def check_index(index, many):
    """Raise an error if an index is none of that many steps."""
    if not is_amount(index) or index >= many:
        raise UnknownStep(copied(index))


def check_exchange(index, many):
    """Raise an error if an index is none of that many steps, or if there is none behind."""
    check_index(index, many)
    if index + 1 >= many:
        raise UnknownStep(index)


def check_no_unless(plan):
    """Raise an error for the first `unless` of a script."""
    for step in plan.steps:
        if step[0] == "unless":
            raise InvalidStep(step)
