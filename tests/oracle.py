"""What the tests hold the program against: slow, plain arithmetic with Python's own fractions and decimals."""

from decimal import Decimal, getcontext
from fractions import Fraction
from math import floor, gcd

getcontext().prec = 120


def told(number):
    """A fraction of the program for one of Python's."""
    return (number.numerator, number.denominator)


def read(spot):
    """One of Python's fractions for a fraction of the program."""
    return Fraction(*spot)


def stripped(numbers):
    numbers = list(numbers)
    while numbers and numbers[-1] == 0:
        numbers.pop()
    return numbers


def height(one, number):
    return sum(factor * number ** k for k, factor in enumerate(one))


def product(*factors):
    result = [1]
    for factor in factors:
        numbers = [0] * (len(result) + len(factor))
        for k, a in enumerate(result):
            for j, b in enumerate(factor):
                numbers[k + j] += a * b
        result = stripped(numbers)
    return result


def divided(one, other):
    """The quotient and what is left of a division over fractions."""
    left, found = [Fraction(number) for number in one], {}
    while len(left) >= len(other):
        take, behind = left[-1] / other[-1], len(left) - len(other)
        found[behind] = take
        left = stripped(number - (take * other[k - behind] if k >= behind else 0) for k, number in enumerate(left))
    return [found.get(k, 0) for k in range(max(found, default=-1) + 1)], left


def whole(numbers):
    """Fractions times the least positive integer that makes them integers, by what divides all of them."""
    below = 1
    for number in numbers:
        below = below * Fraction(number).denominator // gcd(below, Fraction(number).denominator)
    integers = [int(number * below) for number in numbers]
    factor = gcd(*integers) if integers else 1
    return [number // factor for number in integers]


def rest_of(one, other):
    return whole(divided(one, other)[1])


def upright(numbers):
    numbers = whole(numbers)
    return [-number for number in numbers] if numbers and numbers[-1] < 0 else numbers


def factor_of(one, other):
    while other:
        one, other = other, divided(one, other)[1]
    return upright(one)


def slope_of(one):
    return [k * number for k, number in enumerate(one)][1:]


def plain_of(one):
    return upright(divided(one, factor_of(one, slope_of(one)))[0])


def goes_into(one, other):
    return not divided(other, one)[1]


class Surd:
    """The number (p + q * sqrt(d)) / r; a fraction if q is 0."""

    def __init__(self, p, q=0, d=1, r=1):
        self.number = (Decimal(p) + Decimal(q) * Decimal(d).sqrt()) / Decimal(r)
        self.fraction = Fraction(p, r) if q == 0 else None
        self.polynomial = [-p, r] if q == 0 else [p * p - q * q * d, -2 * p * r, r * r]
        self.other = None if q == 0 else (Decimal(p) - Decimal(q) * Decimal(d).sqrt()) / Decimal(r)

    def numbers(self):
        """All numbers at which its polynomial is 0."""
        return [self.number] if self.other is None else [self.number, self.other]


KNOWN = {}


def near(place):
    """A decimal that is a place but for 50 digits."""
    if repr(place) not in KNOWN:
        KNOWN[repr(place)] = worked_out(place)
    return KNOWN[repr(place)]


def worked_out(place):
    if place[0] != "root":
        return Decimal(place[0]) / Decimal(place[1])
    _, one, low, high = place
    low, high = read(low), read(high)
    last = height(one, high) > 0
    while high - low > Fraction(1, 10 ** 60):
        middle = (low + high) / 2
        if (height(one, middle) > 0) == last:
            high = middle
        else:
            low = middle
    return Decimal(low.numerator) / Decimal(low.denominator)


def is_near(one, other):
    return abs(one - other) < Decimal(10) ** -50


def root(one, low, high):
    """A root told with integers or with fractions as its two ends."""
    low, high = Fraction(low), Fraction(high)
    return ("root", list(one), told(low), told(high))


def simplest_fraction(low, low_in, high, high_in):
    """The simplest fraction between two of Python's fractions, `high` perhaps None, tried out."""
    below = 0
    while True:
        below += 1
        above = floor(low * below) + (0 if low * below == floor(low * below) and low_in else 1)
        if high is None or Fraction(above, below) < high or (high_in and Fraction(above, below) == high):
            return (above, below)


def lists_in(thing):
    """All lists that a value holds, each as often as it stands there."""
    if isinstance(thing, (list, tuple)):
        inner = [found for part in thing for found in lists_in(part)]
        return [thing] + inner if isinstance(thing, list) else inner
    return []
