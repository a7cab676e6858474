"""Arithmetic of fractions and polynomials that are known to be right."""

from math import gcd


def fraction(above, below):
    """Return a fraction in lowest terms; `below` is above 0."""
    factor = gcd(above, below)
    return above // factor, below // factor


def order_of_fractions(one, other):
    """Return -1, 0 or 1 if the one fraction is below, on or above the other one."""
    return sign_of(one[0] * other[1] - other[0] * one[1])


def less(one, other):
    """Return the one fraction less the other one."""
    return fraction(one[0] * other[1] - other[0] * one[1], one[1] * other[1])


def midpoint(one, other):
    """Return the fraction halfway between two fractions."""
    return fraction(one[0] * other[1] + other[0] * one[1], 2 * one[1] * other[1])


def sign_of(number):
    """Return -1, 0 or 1 for an integer."""
    if number == 0:
        return 0
    return 1 if number > 0 else -1


def cut(numbers):
    """Return some numbers as a new list without zeros at its end."""
    many = len(numbers)
    while many > 0 and numbers[many - 1] == 0:
        many -= 1
    return numbers[:many]


def negated(one):
    """Return a polynomial with all signs turned."""
    return [-number for number in one]


def added(one, other):
    """Return the sum of two polynomials."""
    many = max(len(one), len(other))
    mine, yours = one + [0] * (many - len(one)), other + [0] * (many - len(other))
    return cut([mine[k] + yours[k] for k in range(many)])


def multiplied(one, other):
    """Return the product of two polynomials."""
    if not one or not other:
        return []
    numbers = [0] * (len(one) + len(other) - 1)
    for k, number in enumerate(one):
        for j, factor in enumerate(other):
            numbers[k + j] = numbers[k + j] + number * factor
    return numbers


def slope(one):
    """Return the slope of a polynomial."""
    return [k * number for k, number in enumerate(one)][1:]


def scaled_value(one, spot):
    """Return a polynomial's value at a fraction times, and with, a power of the fraction's `below`."""
    above, below = spot
    total, power = 0, 1
    for k, number in enumerate(one[::-1]):
        if k > 0:
            power = power * below
        total = total * above + number * power
    return total, power


def value_at(one, spot):
    """Return what a polynomial is at a fraction, a fraction."""
    total, power = scaled_value(one, spot)
    return fraction(total, power)


def sign_at_fraction(one, spot):
    """Return -1, 0 or 1 for what a polynomial is at a fraction."""
    return sign_of(scaled_value(one, spot)[0])


def content(one):
    """Return the greatest integer that divides all numbers of a polynomial, 0 if it is 0."""
    factor = 0
    for number in one:
        factor = gcd(factor, number)
    return factor


def primitive(one):
    """Return a polynomial divided by what divides all its numbers."""
    factor = content(one)
    return [number // factor for number in one]


def upright(one):
    """Return a polynomial divided by what divides all its numbers, with a last number above 0."""
    told = primitive(one)
    return negated(told) if told and told[-1] < 0 else told


def remainder(one, other):
    """Return the rest of a polynomial by another one that is not 0."""
    left = one
    lead = other[-1]
    while len(left) >= len(other):
        factor = gcd(left[-1], lead)
        # The factor of what is left stays above 0, so that the rest keeps its sign.
        grow, take = abs(lead) // factor, left[-1] // factor
        if lead < 0:
            take = -take
        behind = len(left) - len(other)
        taken = [0] * behind + [take * number for number in other]
        left = cut([grow * number - taken[k] for k, number in enumerate(left)])
    return primitive(left)


def quotient(one, other):
    """Return a polynomial by a factor of it which no integer but 1 divides."""
    left = list(one)
    many = len(one) - len(other) + 1
    found = [0] * many
    for at in range(many - 1, -1, -1):
        found[at] = left[at + len(other) - 1] // other[-1]
        for k, number in enumerate(other):
            left[at + k] = left[at + k] - found[at] * number
    return found


def common_factor(one, other):
    """Return the greatest common factor of two polynomials, upright."""
    last, this = one, other
    while this:
        last, this = this, remainder(last, this)
    return upright(last)


def power(number, many):
    """Return a number times itself, as many times as told."""
    product = 1
    for _ in range(many):
        product = product * number
    return product


def resultant(one, other):
    """Return, without its sign, the resultant of two polynomials that have no common factor.

    It is an integer that is the product of what the one is at all roots of the other one, times as many last
    numbers of the other one as the one has roots.
    """
    if len(one) < len(other):
        return resultant(other, one)
    if len(other) == 1:
        return power(abs(other[0]), len(one) - 1)
    left, scale, lead = one, 1, abs(other[-1])
    while len(left) >= len(other):
        taken = [0] * (len(left) - len(other)) + [left[-1] * number for number in other]
        left = cut([other[-1] * number - taken[k] for k, number in enumerate(left)])
        scale = scale * lead
    return resultant(other, left) * power(lead, len(one) - len(left)) // power(scale, len(other) - 1)


def plain_of(one):
    """Return the plain polynomial of one that is not 0."""
    return upright(quotient(one, common_factor(one, slope(one))))
