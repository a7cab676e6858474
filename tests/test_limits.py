"""What scripts do at widths as small, or as great, as one likes."""

import random
import unittest
from fractions import Fraction

from checking import Checks
from oracle import read, told
from streams import (
    WIDTHS, WORDS, beside, done, ends_of, lively_scripts, number_at, some_script, some_words)
from test_ways import CHAIN, EVEN, HALT, HIGH, LOW, NARROW
from valvelevels.limits import from_where, great, great_way, small, small_way
from valvelevels.places import compare
from valvelevels.scripts import Script
from valvelevels.ways import ways

LEAST, MOST = Fraction(1, 10 ** 60), Fraction(10 ** 60)
NEAR = Fraction(1, 10 ** 40)


class LimitChecks(Checks):
    def check_levels(self, found, levels):
        self.assertEqual(len(found), len(levels))
        for limit, level in zip(found, levels):
            if limit is None:
                self.assertGreater(level, 10 ** 40)
            else:
                self.assertEqual(limit, told(read(limit)))
                self.assertLess(abs(read(limit) - level), NEAR)

    def check_limits(self, plan):
        least, lowest = done(plan, LEAST)
        most, farthest = done(plan, MOST)
        self.check_levels(small(plan), lowest)
        self.check_levels(great(plan), farthest)
        self.assertNotIn(None, great(plan))
        self.assertEqual(great(plan)[plan.unknown], (0, 1))
        self.assertEqual([small_way(plan), great_way(plan)], [least, most])
        self.assertEqual([small(plan=plan), great(plan=plan), small_way(plan=plan), great_way(plan=plan)],
                         [small(plan), great(plan), small_way(plan), great_way(plan)])
        self.assertEqual(from_where(plan=plan), from_where(plan))
        self.check_places(plan, least, most)

    def check_places(self, plan, least, most):
        below, above = from_where(plan)
        listed = ways(plan)
        if len(listed) == 1:
            self.assertEqual([below, above], [None, None])
            return
        self.assertLessEqual(compare(below, above), 0)
        ends = ends_of(*[widths for _, _, widths in listed])
        for width in WIDTHS + [number for end in ends for number in beside(end)]:
            if compare(told(width), below) < 0:
                self.assertEqual(done(plan, width)[0], least)
            if compare(told(width), above) > 0:
                self.assertEqual(done(plan, width)[0], most)
        for end in ends:
            if compare(end, below) < 0:
                self.assertEqual(done(plan, number_at(end))[0], least)
            if compare(end, above) > 0:
                self.assertEqual(done(plan, number_at(end))[0], most)
        # No greater place, and no lesser one, would do: there, or just beyond it, it goes in another way.
        self.assertNotEqual({done(plan, width)[0] for width in [number_at(below), beside(below)[1]]}, {least})
        self.assertNotEqual({done(plan, width)[0] for width in [number_at(above), beside(above)[0]]}, {most})


class Limits(LimitChecks):
    def test_told_limits(self):
        for plan, expected in [
                (HALT, [[(5, 2), (5, 1)], [(2, 1), (0, 1)], None, 0, ((3, 1), (3, 1))]),
                (CHAIN, [[(6, 1), (0, 1), (0, 1)], [(0, 1), (0, 1), (0, 1)], None, None, (None, None)]),
                (EVEN, [[(2, 1), None], [(2, 1), (0, 1)], 1, 0, ((2, 1), (2, 1))]),
                (Script([(None, 0)], []), [[(0, 1)], [(0, 1)], None, None, (None, None)]),
                (Script([(None, 5)], []), [[None], [(0, 1)], None, None, (None, None)]),
                (Script([(None, 5)], [("scoop", 0, (1, 1))]), [[(0, 1)], [(0, 1)], None, None, (None, None)]),
                (Script([(4, 6), (None, 5)], []), [[(3, 2), None], [(3, 2), (0, 1)], None, None, (None, None)]),
                (Script([(4, 6), (None, 5)], [("move", 0, 1, (1, 2))]), [[(3, 4), None], [(3, 4), (0, 1)], None, None,
                                                                         (None, None)]),
                (Script([(2, 4), (None, 6)], [("open", [0, 1]), ("move", 1, 0, (1, 1))]),
                 [[(5, 1), (0, 1)], [(5, 1), (0, 1)], None, None, (None, None)]),
                (Script([(1, 6), (None, 0)], [("unless", 0, 1)]), [[(6, 1), (0, 1)]] * 2 + [0, 0, (None, None)])]:
            with self.subTest(tanks=plan.tanks, steps=plan.steps):
                found = [small(plan), great(plan), small_way(plan), great_way(plan), from_where(plan)]
                self.assertEqual(found, expected)
                self.check_limits(plan)

    def test_parted_at_roots(self):
        below, above = from_where(NARROW)
        self.assertEqual([compare(below, LOW), compare(above, HIGH), below[0], above[0]], [0, 0, "root", "root"])
        self.assertEqual([small_way(NARROW), great_way(NARROW)], [3, 3])
        self.check_limits(NARROW)
        # Between the roots it goes on, at the root it does as well.
        plan = Script(NARROW.tanks, NARROW.steps[:2] + [("unless", 3, 2)])
        self.assertEqual([compare(place, end) for place, end in zip(from_where(plan), (LOW, HIGH))], [0, 0])
        self.check_limits(plan)

    def test_the_same_way_but_at_one_place(self):
        # Tank 2, at 6 * w / (1 + w) ** 2, is not above tank 3, at 3 / 2 , and even with it at 1 alone.
        plan = Script([(1, 6), (None, 0), (1, 0), (2, 3)], CHAIN.steps + [("unless", 3, 2), ("pour", 0, 1)])
        self.assertEqual([small_way(plan), great_way(plan), from_where(plan)], [2, 2, ((1, 1), (1, 1))])
        self.check_limits(plan)

    def test_random_scripts(self):
        source = random.Random(111)
        for _ in range(150):
            self.check_limits(some_script(source, some_words(source), source.randint(2, 4), source.choice([3, 12])))
        for plan in lively_scripts(source, 80, 30):
            self.check_limits(plan)

    def test_the_bounds(self):
        source = random.Random(112)
        for _ in range(80):
            self.check_limits(some_script(source, WORDS))

    def test_nothing_is_kept(self):
        for plan in (CHAIN, HALT, EVEN, NARROW):
            for call in (small, great, small_way, great_way, from_where):
                self.check_nothing_kept(call, plan)


if __name__ == "__main__":
    unittest.main()
