"""The least height that no level of a tank is above."""

import random
import unittest
from decimal import Decimal
from fractions import Fraction

from checking import Checks
from oracle import near, product, read, root, told
from streams import WIDTHS, beside, converted, done, ends_of, lively_scripts, sign_of, some_script, some_words
from test_ways import CHAIN, EVEN, HALT, NARROW
from valvelevels.forms import form_at
from valvelevels.heights import fraction_at
from valvelevels.scripts import Script
from valvelevels.signs import highest, over
from valvelevels.ways import ways

TANKS = [(2, 4), (None, 6)]
# Roots, each with the least polynomial that is 0 there.
ROOTS = [(root([-2, 0, 1], 1, 2), [-2, 0, 1]), (root([1, -4, 1], 0, 1), [1, -4, 1]),
         (root([1, -4, 1], 3, 4), [1, -4, 1]), (root([-2, 0, 0, 1], 1, 2), [-2, 0, 0, 1]),
         (root(product([-2, 0, 1], [-5, 1]), 1, 2), [-2, 0, 1]),
         (root(product([-2, 0, 1], [-5, 0, 1]), 2, 3), [-5, 0, 1]),
         (root(product([-3, 0, 1], [3, 1], [1, 1]), 0, 2), [-3, 0, 1]),
         (root([-7, 0, 5], 1, Fraction(6, 5)), [-7, 0, 5])]


class Told(Checks):
    def check(self, tanks, steps, tank, expected):
        plan = Script(tanks, steps)
        self.assertEqual(highest(plan, tank), expected)
        self.assertEqual(highest(tank=tank, plan=plan), expected)

    def test_reached(self):
        self.check(CHAIN.tanks, CHAIN.steps, 2, ((3, 2), True))
        self.check(TANKS, [], 0, ((2, 1), True))
        self.check([(2, 0), (None, 0)], [], 0, ((0, 1), True))
        self.check([(2, 0), (None, 0)], [("open", [0, 1])], 1, ((0, 1), True))
        # Tank 1 keeps 6 / w from 3 on, and gives all of it away below.
        self.check([(1, 2), (None, 6)], [("unless", 0, 1), ("scoop", 1, (1, 1))], 1, ((2, 1), False))
        self.check([(1, 2), (None, 6)], [("unless", 1, 0), ("pour", 0, 1)], 1, (None, False))
        self.check([(1, 2), (None, 6)], [("unless", 1, 0), ("pour", 0, 1)], 0, ((3, 1), True))

    def test_where_the_level_turns(self):
        # It is 6 and 6 * w / (1 + w) ** 2, which is greatest at 1.
        steps = [("open", [0, 1]), ("scoop", 0, (1, 1)), ("pour", 0, 6), ("open", [1, 2]), ("move", 2, 0, (1, 1))]
        self.check([(1, 6), (None, 0), (1, 0)], steps, 0, ((15, 2), True))

    def test_only_come_to_at_0(self):
        self.check(CHAIN.tanks, CHAIN.steps, 0, ((6, 1), False))
        self.check(TANKS, [("open", [0, 1])], 1, ((5, 1), False))
        self.check([(2, 4), (None, 2)], [("open", [0, 1])], 0, ((3, 1), False))
        self.check(HALT.tanks, HALT.steps, 0, ((5, 2), False))
        self.check(TANKS, [("open", [0, 1]), ("unless", 1, 0), ("scoop", 0, (1, 1))], 1, ((5, 1), False))

    def test_only_come_to_beyond_all_widths(self):
        # All water but what stays in the unknown tank goes to tank 2: 6 * w / (1 + w), below 6.
        steps = [("open", [0, 1]), ("move", 1, 2, (1, 1))]
        self.check([(1, 6), (None, 0), (1, 0)], steps, 2, ((6, 1), False))
        self.check([(1, 6), (None, 0), (2, 4)], steps, 2, ((5, 1), False))

    def test_without_bound(self):
        self.check([(None, 1)], [], 0, (None, False))
        self.check(TANKS, [], 1, (None, False))
        self.check(TANKS, [("open", [0, 1]), ("pour", 1, 1)], 1, (None, False))
        self.check([(None, 0)], [], 0, ((0, 1), True))
        self.check([(None, 1)], [("scoop", 0, (1, 1))], 0, ((0, 1), True))

    def test_one_level_stands_still(self):
        self.check([(1, 6), (None, 0), (2, 6)], [("open", [0, 2])], 0, ((4, 1), True))
        # It is 4 in the one way, and comes to 4 in the other one.
        self.check([(2, 4), (None, 6)], [("unless", 0, 1), ("pour", 0, 4)], 0, ((4, 1), True))

    def test_at_the_end_of_a_range(self):
        # Tank 1 stands at 6 / w, which is 2, as tank 0 is, at 3; the last level is 5 * w / (2 + w) up to there.
        self.check(TANKS, [("unless", 0, 1), ("scoop", 1, (1, 1))], 1, ((2, 1), False))
        rising = [("open", [0, 1]), ("scoop", 0, (1, 1)), ("move", 1, 0, (1, 1))]
        self.check(TANKS, [("unless", 0, 1)] + rising, 0, ((3, 1), True))
        self.check(TANKS, rising + [("scoop", 0, (0, 1))], 0, ((5, 1), False))
        # From 3 on it is 12 / (2 + w), which falls.
        self.check(TANKS, [("unless", 1, 0), ("pour", 0, 2), ("open", [0, 1])], 0, ((12, 5), True))
        self.check(EVEN.tanks, EVEN.steps + [("pour", 0, 9)], 0, ((11, 1), True))

    def test_no_fraction(self):
        # Tank 2 stands at 2 * w / ((2 + w) * (1 + w)), which is greatest at the square root of 2.
        self.check([(2, 2), (None, 0), (1, 0)], CHAIN.steps, 2, (None, False))
        # At the roots alone tank 0 stands at 100 + 6 / (1 + w).
        self.check(NARROW.tanks, NARROW.steps + [("pour", 0, 100)], 0, (None, False))
        self.check(NARROW.tanks, NARROW.steps + [("pour", 1, 100)], 0, ((6, 1), False))

    def test_a_fraction_at_a_root(self):
        self.check(NARROW.tanks, NARROW.steps, 2, ((2, 1), True))
        self.check(NARROW.tanks, NARROW.steps[:4] + [("scoop", 2, (1, 7)), ("pour", 2, 10)], 2, ((76, 7), True))
        # Less than the 3 / 2 which it is at 1.
        self.check(NARROW.tanks, NARROW.steps[:4] + [("scoop", 2, (1, 7))], 2, ((3, 2), True))

    def test_only_come_to_at_a_root(self):
        # Tank 2 is above tank 3, at 1, between the roots, where it is emptied; there it comes to 1.
        steps = [("open", [0, 1]), ("open", [1, 2]), ("unless", 3, 2), ("unless", 3, 2), ("scoop", 2, (1, 1))]
        self.check(NARROW.tanks, steps, 2, ((1, 1), False))
        steps = [("open", [0, 1]), ("open", [1, 2]), ("unless", 2, 3), ("scoop", 2, (1, 1))]
        self.check(NARROW.tanks, steps, 2, ((3, 2), True))
        # Between the roots alone tank 0 is not emptied; there it comes to 6 / (3 - sqrt(3)), no fraction.
        steps = [("open", [0, 1]), ("open", [1, 2]), ("unless", 2, 3), ("scoop", 0, (1, 1))]
        self.check(NARROW.tanks, steps, 0, (None, False))

    def test_a_fraction_above_what_is_no_fraction(self):
        # At the lesser root tank 0 stands at 1 + 6 / (3 - sqrt(3)), which is less than 6.
        self.check(NARROW.tanks, NARROW.steps + [("pour", 0, 1)], 0, ((6, 1), False))
        self.check(NARROW.tanks, NARROW.steps + [("pour", 0, 2)], 0, (None, False))


class Random(Checks):
    def check_highest(self, plan, tank):
        found = highest(plan, tank)
        listed = ways(plan)
        spots = [number for _, _, widths in listed for end in ends_of(widths) for number in beside(end)] + WIDTHS
        levels = [done(plan, width)[1][tank] for width in spots]
        height, reached = found
        self.assertIsInstance(reached, bool)
        if height is None:
            self.assertFalse(reached)
            return found
        self.assertTrue(all(level <= read(height) for level in levels))
        self.assertEqual(over(plan, tank, height), [])
        # Just below it there are levels that are above.
        for below in (10 ** 6, 10 ** 30):
            lower = told(read(height) - Fraction(1, below))
            self.assertTrue(over(plan, tank, lower))
        if read(height) in levels:
            self.assertTrue(reached)
        return found

    def test_random_scripts(self):
        source = random.Random(81)
        kinds = {}
        plans = [some_script(source, some_words(source), source.randint(2, 4), source.choice([3, 12]))
                 for _ in range(150)] + lively_scripts(source, 80, 30)
        for plan in plans:
            for tank in range(len(plan.tanks)):
                height, reached = self.check_highest(plan, tank)
                kind = "none" if height is None else reached
                kinds[kind] = kinds.get(kind, 0) + 1
        self.assertTrue(all(kinds[kind] > 20 for kind in ("none", True, False)), kinds)

    def test_none_is_without_bound_or_no_fraction(self):
        source = random.Random(82)
        several = 0
        for plan in lively_scripts(source, 60, 60):
            for tank in range(len(plan.tanks)):
                if highest(plan, tank) != (None, False) or done(plan, Fraction(1, 10 ** 20))[1][tank] > 10 ** 9:
                    continue
                several += 1
                # Between two heights with few digits there is one that the level comes to, or is at.
                low, high = Fraction(0), Fraction(10 ** 4)
                while high - low > Fraction(1, 10 ** 40):
                    middle = (low + high) / 2
                    low, high = (middle, high) if over(plan, tank, told(middle)) else (low, middle)
                simple = low.limit_denominator(10 ** 9)
                self.assertFalse(low <= simple <= high, (plan.tanks, plan.steps, tank, simple))
        self.assertGreater(several, 3)

    def test_scripts_within_the_bounds(self):
        source = random.Random(83)
        for _ in range(60):
            plan = some_script(source, ["open"] * 4 + ["unless"] * 2)
            for tank in range(4):
                self.check_highest(plan, tank)


class AtRoots(unittest.TestCase):
    def test_forms_that_are_fractions_at_a_root(self):
        source = random.Random(84)
        for place, factor in ROOTS:
            for _ in range(12):
                bottom = product(*[[source.randint(0, 12), 1] for _ in range(source.randint(0, 4))],
                                 [source.randint(1, 30)])
                height = Fraction(source.randint(1, 500), source.randint(1, 60))
                # What is `height` at the root, by a polynomial that is 0 there.
                grown = product(factor, [source.randint(1, 9), source.randint(1, 9)])
                many = max(len(grown), len(bottom))
                top = [height.denominator * a + height.numerator * b for a, b in
                       zip(grown + [0] * (many - len(grown)), bottom + [0] * (many - len(bottom)))]
                form = (top, product(bottom, [height.denominator]))
                self.assertEqual(fraction_at(form, place), told(height))
                other = ([top[0] + 1] + top[1:-1] + [top[-1] + 1], form[1])
                level = sum(Decimal(a) * near(place) ** k for k, a in enumerate(other[0])) / sum(
                    Decimal(a) * near(place) ** k for k, a in enumerate(other[1]))
                found = fraction_at(other, place)
                if found is not None:
                    self.assertEqual(sign_of(level - converted(found, level)), 0)
                else:
                    simple = Fraction(level).limit_denominator(10 ** 12)
                    self.assertNotEqual(sign_of(level - converted(told(simple), level)), 0)

    def test_forms_at_fractions(self):
        self.assertEqual(form_at(([1, 1], [-2]), (1, 2)), (-3, 4))


if __name__ == "__main__":
    unittest.main()
