"""Where levels rise, fall and stand still, their peaks, and whether they tell the width."""

import random
import unittest
from decimal import Decimal
from fractions import Fraction

from checking import Checks
from oracle import root, told
from streams import (
    ALL, PLAIN, TINY, WIDTHS, WORDS, beside, done, ends_of, is_told_well, lively_scripts, number_at, sign_of,
    some_script, some_words)
from test_ways import CHAIN, EVEN, HALT, HIGH, LOW, NARROW
from valvelevels.errors import InvalidStep, UnknownTank
from valvelevels.places import compare, has, same, without
from valvelevels.scripts import Script
from valvelevels.slopes import falling, peaks, rising, still, tells_width
from valvelevels.ways import ways

TANKS = [(2, 4), (None, 6)]
LEAP = Script(TANKS, [("unless", 0, 1), ("pour", 0, 2)])
ROOT_2 = root([-2, 0, 1], 1, 2)


def decimal(number):
    return number if isinstance(number, Decimal) else Decimal(number.numerator) / Decimal(number.denominator)


def level_at(plan, tank, width):
    return done(plan, width)[1][tank]


class SlopeChecks(Checks):
    def check_slopes(self, plan, tank):
        """That what is told of a level is right at many widths, and around all ends."""
        sets = [rising(plan, tank), falling(plan, tank), still(plan, tank)]
        found = peaks(plan, tank)
        self.assertEqual([rising(tank=tank, plan=plan), falling(tank=tank, plan=plan), still(tank=tank, plan=plan),
                          peaks(tank=tank, plan=plan)], sets + [found])
        self.check_new(sets + [found], [])
        ends = ends_of(*sets, *[widths for _, _, widths in ways(plan)])
        widths = sorted(set(WIDTHS + [number for end in ends for number in beside(end)]))
        for told_set, trend in zip(sets, [1, -1, 0]):
            self.assertTrue(is_told_well(told_set))
            self.assertFalse([stretch for stretch in told_set if stretch[1] or stretch[3]])
            for stretch in told_set:
                levels = [level_at(plan, tank, width) for width in widths if has([stretch], told(width))]
                for one, other in zip(levels, levels[1:]):
                    self.assertEqual(sign_of(other - one), trend)
        left = without([ALL], sets[0] + sets[1] + sets[2])
        self.assertTrue(all(low == high for low, _, high, _ in left))
        for place in found:
            self.assertTrue(has(left, place))
        for one, other in zip(found, found[1:]):
            self.assertEqual(compare(one, other), -1)
        for place, _, _, _ in left:
            self.check_place(plan, tank, place, sets, found)

    def check_place(self, plan, tank, place, sets, found):
        """That at a place which is in no set the level turns or leaps, and is a peak or is none."""
        level = decimal(level_at(plan, tank, number_at(place)))
        lower, upper = [decimal(level_at(plan, tank, width)) for width in beside(place)]
        # Decimals tell levels apart only so far; where a level turns at a root they come near to each other.
        before, behind = [(one > 0) - (one < 0) if abs(one) > TINY else 0 for one in (level - lower, upper - level)]
        told_sides = [[has(told_set, told(width)) for told_set in sets] for width in beside(place)]
        trends = [[1, -1, 0][sides.index(True)] for sides in told_sides]
        into, out = before or trends[0], behind or trends[1]
        is_peak = any(compare(place, other) == 0 for other in found)
        self.assertEqual(is_peak, into > 0 and out < 0, (plan.tanks, plan.steps, tank, place))
        self.assertFalse(trends[0] == trends[1] == into == out)


class Slopes(SlopeChecks):
    def test_told_slopes(self):
        low, high = ((0, 1), False, (1, 1), False), ((1, 1), False, None, False)
        for plan, tank, expected in [
                (CHAIN, 2, [[low], [high], [], [(1, 1)]]), (CHAIN, 0, [[], [ALL], [], []]),
                (Script([(None, 0)], []), 0, [[], [], [ALL], []]), (Script([(None, 1)], []), 0, [[], [ALL], [], []]),
                (Script([(None, 1)], [("scoop", 0, (1, 1))]), 0, [[], [], [ALL], []]),
                (Script(TANKS, []), 0, [[], [], [ALL], []]),
                (LEAP, 0, [[], [], [((0, 1), False, (3, 1), False), ((3, 1), False, None, False)], []]),
                (LEAP, 1, [[], [ALL], [], []]),
                (HALT, 0, [[], [((0, 1), False, (3, 1), False)], [((3, 1), False, None, False)], []]),
                (EVEN, 0, [[], [], [ALL], []]),
                (Script([(2, 4), (None, 4)], [("open", [0, 1]), ("move", 0, 1, (1, 1))]), 1, [[], [ALL], [], []]),
                # All that is not left in tank 1 comes to tank 0: it rises.
                (Script(TANKS, [("open", [0, 1]), ("scoop", 0, (1, 1)), ("move", 1, 0, (1, 1))]), 0,
                 [[ALL], [], [], []])]:
            with self.subTest(tanks=plan.tanks, steps=plan.steps, tank=tank):
                self.assertEqual([rising(plan, tank), falling(plan, tank), still(plan, tank), peaks(plan, tank)],
                                 expected)
                self.check_slopes(plan, tank)

    def test_a_peak_at_a_root(self):
        # Tank 2 stands at 2 * w / ((2 + w) * (1 + w)).
        plan = Script([(2, 2), (None, 0), (1, 0)], CHAIN.steps)
        self.assertTrue(same(rising(plan, 2), [((0, 1), False, ROOT_2, False)]))
        self.assertTrue(same(falling(plan, 2), [(ROOT_2, False, None, False)]))
        self.assertEqual([[place[0], compare(place, ROOT_2)] for place in peaks(plan, 2)], [["root", 0]])
        self.check_slopes(plan, 2)

    def test_peaks_where_it_goes_on_at_roots_alone(self):
        self.assertEqual([compare(place, end) for place, end in zip(peaks(NARROW, 2), [LOW, (1, 1), HIGH])], [0, 0, 0])
        self.assertEqual(len(peaks(NARROW, 2)), 3)
        self.check_slopes(NARROW, 2)
        # With less water at the roots they are no peaks, nor does the level rise through them.
        plan = Script(NARROW.tanks, NARROW.steps[:4] + [("scoop", 2, (1, 1))])
        self.assertEqual(peaks(plan, 2), [(1, 1)])
        self.assertTrue(same(rising(plan, 2), [((0, 1), False, LOW, False), (LOW, False, (1, 1), False)]))
        self.check_slopes(plan, 2)

    def test_a_level_that_goes_on_through_the_end_of_two_ranges(self):
        # In either way tank 1 is left as it is.
        for steps in ([("unless", 0, 1), ("pour", 0, 9)], [("unless", 1, 0), ("pour", 0, 9)]):
            plan = Script(TANKS, steps)
            self.assertEqual([falling(plan, 1), peaks(plan, 1)], [[ALL], []])
            self.check_slopes(plan, 1)
        # Tank 2 rises below 1 and falls above; a way that is parted at a root changes nothing of it.
        plan = Script(CHAIN.tanks + [(1, 1)], CHAIN.steps + [("unless", 2, 3), ("pour", 3, 1)])
        self.assertEqual(rising(plan, 2), [((0, 1), False, (1, 1), False)])
        self.assertTrue(same(still(plan, 3), [((0, 1), False, LOW, False), (LOW, False, HIGH, False),
                                              (HIGH, False, None, False)]))
        self.assertEqual(peaks(plan, 3), [])
        self.check_slopes(plan, 2)
        self.check_slopes(plan, 3)

    def test_a_level_that_rises_and_leaps(self):
        # It is 5 * w / (2 + w), which is 3, as tank 2 is, at 3.
        ahead = [("open", [0, 1]), ("scoop", 0, (1, 1)), ("move", 1, 0, (1, 1))]
        tanks = [(2, 4), (None, 6), (1, 3)]
        up, down = ("pour", 0, 2), ("scoop", 0, (1, 2))
        halves = [((0, 1), False, (3, 1), False), ((3, 1), False, None, False)]
        for steps, expected, tops in [
                # The step is done up to 3, at 3 too, or from 3 on.
                ([("unless", 0, 2), down], [ALL], []), ([("unless", 2, 0), up], [ALL], []),
                ([("unless", 0, 2), up], halves, [(3, 1)]), ([("unless", 2, 0), down], halves, [])]:
            plan = Script(tanks, ahead + steps)
            self.assertEqual([rising(plan, 0), peaks(plan, 0)], [expected, tops])
            self.check_slopes(plan, 0)

    def test_a_level_that_falls_and_leaps(self):
        # Tank 1 stands at 6 / w, tank 0 at 2, which is even at 3.
        halves = [((0, 1), False, (3, 1), False), ((3, 1), False, None, False)]
        for steps, expected, tops in [
                ([("unless", 0, 1), ("pour", 1, 1)], [ALL], []), ([("unless", 1, 0), ("scoop", 1, (1, 2))], [ALL], []),
                ([("unless", 0, 1), ("scoop", 1, (1, 2))], halves, []),
                ([("unless", 1, 0), ("pour", 1, 1)], halves, [(3, 1)])]:
            plan = Script(TANKS, steps)
            self.assertEqual([falling(plan, 1), peaks(plan, 1)], [expected, tops])
            self.check_slopes(plan, 1)

    def test_a_level_that_is_still_at_a_place(self):
        plan = Script([(1, 2), (None, 4)], EVEN.steps[:2] + [("pour", 0, 1)])
        self.assertEqual([still(plan, 0), peaks(plan, 0)],
                         [[((0, 1), False, (2, 1), False), ((2, 1), False, None, False)], [(2, 1)]])
        plan = Script([(1, 2), (None, 4)], EVEN.steps[:2] + [("scoop", 0, (1, 2))])
        self.assertEqual([still(plan, 0), peaks(plan, 0)],
                         [[((0, 1), False, (2, 1), False), ((2, 1), False, None, False)], []])
        plan = Script([(1, 2), (None, 4)], EVEN.steps[:2] + [("pour", 1, 1)])
        self.assertEqual([falling(plan, 1), peaks(plan, 1)],
                         [[((0, 1), False, (2, 1), False), ((2, 1), False, None, False)], [(2, 1)]])

    def test_random_scripts(self):
        source = random.Random(121)
        for _ in range(150):
            plan = some_script(source, some_words(source), source.randint(2, 4), source.choice([3, 12]))
            self.check_slopes(plan, source.randrange(len(plan.tanks)))

    def test_random_scripts_of_several_ways(self):
        for plan in lively_scripts(random.Random(122), 60, 25):
            for tank in range(len(plan.tanks)):
                self.check_slopes(plan, tank)

    def test_the_bounds(self):
        source = random.Random(123)
        for _ in range(60):
            self.check_slopes(some_script(source, WORDS), source.randrange(4))
            self.check_slopes(some_script(source, ["open"] * 4 + ["pour", "move"]), source.randrange(4))

    def test_nothing_is_kept(self):
        peak = Script([(2, 2), (None, 0), (1, 0)], CHAIN.steps)
        for plan in (CHAIN, HALT, NARROW, peak):
            for call in (rising, falling, still, peaks):
                for tank in range(2):
                    self.check_nothing_kept(call, plan, tank)
        for call in (rising, falling, still, peaks, tells_width):
            self.check_nothing_kept(call, peak, 2)
        self.check_nothing_kept(peaks, NARROW, 2)


class TellsWidth(Checks):
    def check_tells(self, plan, tank, expected):
        self.assertIs(tells_width(plan, tank), expected)
        self.assertIs(tells_width(tank=tank, plan=plan), expected)

    def test_told_levels(self):
        for tanks, steps, expected in [
                (CHAIN.tanks, CHAIN.steps, [True, False, False]), (TANKS, [], [False, True]),
                ([(None, 0)], [], [False]), ([(None, 3)], [], [True]),
                ([(1, 6), (None, 0), (1, 0)], [("open", [0, 1])], [True, True, False]),
                ([(1, 6), (None, 0), (1, 0)], [("open", [0, 1]), ("move", 1, 2, (1, 1))], [True, False, True]),
                ([(3, 6), (None, 0)], [("open", [0, 1]), ("move", 1, 0, (1, 1))], [False, False])]:
            for tank, told_width in enumerate(expected):
                self.check_tells(Script(tanks, steps), tank, told_width)

    def test_random_levels(self):
        source = random.Random(124)
        both = {True: 0, False: 0}
        for _ in range(300):
            plan = some_script(source, source.choice([PLAIN, ["open", "open", "move", "pour"], ["open"] * 4]), 3, 6)
            for tank in range(3):
                found = tells_width(plan, tank)
                both[found] += 1
                levels = [level_at(plan, tank, width) for width in WIDTHS]
                steps = {sign_of(other - one) for one, other in zip(levels, levels[1:])}
                self.assertTrue(not found or steps in ({1}, {-1}))
                # One that does not tell the width turns or stands still somewhere.
                if not found:
                    self.assertTrue(steps == {0} or (rising(plan, tank) and falling(plan, tank)))
                self.check_tells(plan, tank, found)
        self.assertGreater(min(both.values()), 50)

    def test_the_first_unless(self):
        for tank in (0, 1, 2, -1, 9):
            self.check_error(InvalidStep, ("unless", 0, 1), tells_width, HALT, tank)
            self.check_error(InvalidStep, ("unless", 2, 3), tells_width, tank=tank, plan=NARROW)


class Wrong(Checks):
    def test_tanks_that_there_are_not(self):
        for call in (rising, falling, still, peaks, tells_width):
            for bad in (3, 4, -1, -3, 100):
                self.check_error(UnknownTank, bad, call, CHAIN, bad)
                self.check_error(UnknownTank, bad, call, tank=bad, plan=CHAIN)
        self.assertEqual(rising(CHAIN, 2), [((0, 1), False, (1, 1), False)])
        self.assertEqual(Fraction(*peaks(CHAIN, 2)[0]), 1)


if __name__ == "__main__":
    unittest.main()
