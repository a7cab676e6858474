"""What scripts do, by Python's own fractions and decimals or by numbers with a square root; and scripts to try."""

from decimal import Decimal
from fractions import Fraction
from math import gcd, isqrt

import oracle
from oracle import near, read, told
from valvelevels.places import compare
from valvelevels.scripts import Script
from valvelevels.ways import ways

ALL = ((0, 1), False, None, False)
TINY = Decimal(10) ** -35


class Quad:
    """The number a + b * sqrt(d), exactly; a and b are fractions and d is no square."""

    def __init__(self, a, b=0, d=2):
        self.a, self.b, self.d = Fraction(a), Fraction(b), d

    def taken(self, other):
        return other if isinstance(other, Quad) else Quad(other, 0, self.d)

    def __add__(self, other):
        other = self.taken(other)
        return Quad(self.a + other.a, self.b + other.b, self.d)

    def __sub__(self, other):
        other = self.taken(other)
        return Quad(self.a - other.a, self.b - other.b, self.d)

    def __mul__(self, other):
        other = self.taken(other)
        return Quad(self.a * other.a + self.b * other.b * self.d, self.a * other.b + self.b * other.a, self.d)

    def __truediv__(self, other):
        other = self.taken(other)
        size = other.a * other.a - other.b * other.b * self.d
        return self * Quad(other.a / size, -other.b / size, self.d)

    def __pow__(self, many):
        return self * self ** (many - 1) if many else Quad(1, 0, self.d)

    __radd__, __rmul__ = __add__, __mul__

    def sign(self):
        if self.b == 0 or (self.a >= 0) == (self.b >= 0):
            return (self.a + self.b > 0) - (self.a + self.b < 0)
        size = self.a * self.a - self.b * self.b * self.d
        side = 1 if self.a > 0 else -1
        return side if size > 0 else -side

    def place(self):
        """This number, above 0 and no fraction, as a place."""
        numbers = oracle.whole([self.a * self.a - self.b * self.b * self.d, -2 * self.a, 1])
        # The other number at which its polynomial is 0 lies on the other side of a.
        far = self.a + self.b * (isqrt(self.d) + 1)
        return oracle.root(numbers, *sorted([max(self.a, Fraction(0)), max(far, Fraction(0))]))


def sign_of(number):
    """The sign of a number of any of the kinds; of decimals those that are tiny are 0."""
    if isinstance(number, Quad):
        return number.sign()
    if isinstance(number, Decimal) and abs(number) < TINY:
        return 0
    return (number > 0) - (number < 0)


def number_at(place):
    """A fraction, or a decimal that is a root but for 50 digits."""
    return near(place) if place[0] == "root" else read(place)


def converted(number, width):
    """A told fraction or integer as a number of the width's kind."""
    number = Fraction(*number) if isinstance(number, tuple) else Fraction(number)
    if isinstance(width, Decimal):
        return Decimal(number.numerator) / Decimal(number.denominator)
    return Quad(number, 0, width.d) if isinstance(width, Quad) else number


def states(tanks, steps, width):
    """At a width of any kind: pairs of a step that is done, or None for the end, and the levels ahead of it."""
    widths = [width if told_width is None else converted(told_width, width) for told_width, _ in tanks]
    levels = [converted(amount, width) / widths[k] for k, (_, amount) in enumerate(tanks)]
    found = []
    for index, step in enumerate(steps):
        found.append((index, list(levels)))
        word, tank = step[0], step[1]
        if word == "open":
            water = sum([levels[k] * widths[k] for k in tank], converted(0, width))
            whole = sum([widths[k] for k in tank], converted(0, width))
            for k in tank:
                levels[k] = water / whole
        elif word == "pour":
            levels[tank] = levels[tank] + converted(step[2], width) / widths[tank]
        elif word == "unless":
            if sign_of(levels[tank] - levels[step[2]]) > 0:
                return found, index, levels
        else:
            part = levels[tank] * converted(step[-1], width)
            levels[tank] = levels[tank] - part
            if word == "move":
                levels[step[2]] = levels[step[2]] + part * widths[tank] / widths[step[2]]
    return found, None, levels


def simulated(tanks, steps, width):
    """By which `unless` a script is over at a width of any kind, or None, and the levels, numbers of that kind."""
    _, index, levels = states(tanks, steps, width)
    return index, levels


def done(plan, width):
    """The same of a script."""
    return simulated(plan.tanks, plan.steps, width)


def expected_run(tanks, steps, width):
    """What `run` returns at one of Python's fractions."""
    index, levels = simulated(tanks, steps, width)
    return index, [told(level) for level in levels]


WIDTHS = [Fraction(*pair) for pair in [
    (1, 10 ** 9), (1, 1000), (1, 60), (1, 12), (1, 7), (1, 3), (1, 2), (3, 5), (2, 3), (5, 6), (1, 1), (7, 6), (5, 4),
    (3, 2), (7, 4), (2, 1), (9, 4), (5, 2), (3, 1), (7, 2), (4, 1), (5, 1), (11, 2), (6, 1), (7, 1), (8, 1), (9, 1),
    (11, 1), (12, 1), (15, 1), (20, 1), (24, 1), (36, 1), (60, 1), (100, 1), (1000, 1), (10 ** 9, 1)]]


def beside(place):
    """Fractions just below and just above a place."""
    number = Fraction(number_at(place))
    step = min(number, Fraction(1)) / 10 ** 20
    return [number - step, number + step]


def ends_of(*lists):
    """All places that are ends of ranges in some lists."""
    ends = [end for found in lists for low, _, high, _ in found for end in (low, high)]
    return [end for end in ends if end is not None and end != (0, 1)]


def is_told_well(found):
    """That ranges are as few as can be, and in order."""
    for stretch, following in zip(found, found[1:]):
        order = compare(stretch[2], following[0])
        if order > 0 or (order == 0 and (stretch[3] or following[1])):
            return False
    return True


def some_part(source, most=6):
    while True:
        below = source.randint(1, most)
        above = source.randint(0, below)
        if gcd(above, below) == 1:
            return (above, below)


def some_step(source, word, many, most=12, parts=6):
    if word == "open":
        return (word, sorted(source.sample(range(many), source.randint(2, many))))
    if word == "pour":
        return (word, source.randrange(many), source.randint(0, most))
    if word == "scoop":
        return (word, source.randrange(many), some_part(source, parts))
    one, other = source.sample(range(many), 2)
    return (word, one, other, some_part(source, parts)) if word == "move" else (word, one, other)


def some_tanks(source, many, most=12):
    unknown = source.randrange(many)
    return [(None if k == unknown else source.randint(1, most), source.randint(0, most)) for k in range(many)]


def some_script(source, words, many=4, most=12):
    """A script with steps of told words, in any order."""
    words = source.sample(list(words), len(words))
    return Script(some_tanks(source, many, most), [some_step(source, word, many, most) for word in words])


WORDS = ["open"] * 4 + ["unless"] * 2
MIXED = ["open", "open", "unless", "unless", "move", "scoop"]
PLAIN = ["open", "open", "open", "pour", "scoop", "move"]


def some_words(source):
    """At most six words of steps, of which at most four open valves and at most two are `unless`."""
    if source.random() < 0.4:
        return source.choice([WORDS, MIXED, PLAIN])
    while True:
        words = source.choices(["open", "open", "open", "unless", "pour", "scoop", "move"], k=source.randint(0, 6))
        if words.count("open") <= 4 and words.count("unless") <= 2:
            return words


def some_late_script(source):
    """A script that opens valves first, so that each `unless` may end it at some widths only."""
    words = ["open", "open"] + source.choice([[], ["open"], ["pour"], ["move"], ["scoop"], ["open", "open"]])
    words.append("unless")
    while len(words) < 6:
        words.append(source.choice(["pour", "scoop", "move"] + ["unless"] * (2 - words.count("unless"))))
    many, most = source.randint(2, 4), source.choice([3, 6, 12])
    return Script(some_tanks(source, many, most), [some_step(source, word, many, most) for word in words])


def ends_at_root(plan):
    """That a script goes in one way up to a root, and in another one from there."""
    return any(end[0] == "root" for _, _, widths in ways(plan) for end in ends_of(widths))


def lively_scripts(source, many, rooted):
    """Scripts that go in several ways, the first ones parted at roots."""
    found = []
    while len(found) < many:
        plan = some_late_script(source)
        if ends_at_root(plan) if len(found) < rooted else len(ways(plan)) > 1:
            found.append(plan)
    return found
