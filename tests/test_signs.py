"""Sets of widths at which levels stand as told, where water runs, and claims, held against runs at many widths."""

import random
import unittest
from fractions import Fraction

from checking import Checks
from oracle import told
from streams import (
    ALL, WIDTHS, beside, converted, done, ends_of, is_told_well, lively_scripts, number_at, sign_of, some_script,
    some_words, states)
from test_ways import CHAIN, EVEN, HALT, HIGH, LOW, NARROW, POINTS
from valvelevels.errors import InvalidClaim, InvalidFraction, UnknownStep, UnknownTank
from valvelevels.places import compare, has, same, simplest, without
from valvelevels.scripts import Script
from valvelevels.signs import above, broken, even, highest, holds, over, over_by, runs_in

WORDS = ["above", "even", "below", "not above", "not over"]
SIGNS = {"above": [1], "even": [0], "below": [-1], "not above": [-1, 0], "not over": [-1, 0]}
ALONE = Script([(None, 6)], [("pour", 0, 2), ("scoop", 0, (1, 4))])
# Of tank 2 the level is above 100 at the two roots alone.
HIGH_THERE = Script(NARROW.tanks, NARROW.steps + [("pour", 2, 100)])


def sign_in(plan, claim, width):
    """The sign of what a claim compares, at a width of any kind."""
    word, tank, other = claim
    levels = done(plan, width)[1]
    return sign_of(levels[tank] - (converted(other, width) if word == "not over" else levels[other]))


def runs(plan, index, tank, width):
    """Whether a step is done at a width, and a tank stands higher behind it than ahead of it."""
    ahead, ended, levels = states(plan.tanks, plan.steps, width)
    heights = [told_levels for _, told_levels in ahead] + [levels]
    is_done = index < len(ahead) and (ended is None or index < ended)
    return is_done and sign_of(heights[index + 1][tank] - heights[index][tank]) > 0


def simplest_of_all(found):
    """The simplest place of some ranges, by that of each."""
    spots = [simplest(stretch) for stretch in found]
    fractions = sorted([(below, at) for at, below in [spot for spot in spots if spot[0] != "root"]])
    if fractions:
        return fractions[0][::-1]
    roots = [spot for spot in spots if not [other for other in spots if compare(other, spot) < 0]]
    return roots[0] if roots else None


class SetChecks(Checks):
    def check_set(self, found, is_in):
        """That a set is told well, and has just the widths, of many, and the ends, at which something is so."""
        self.assertTrue(is_told_well(found), found)
        self.check_new(found, [])
        ends = ends_of(found)
        for width in WIDTHS + [number for end in ends for number in beside(end)]:
            self.assertEqual(has(found, told(width)), is_in(width), (found, width))
        for end in ends:
            self.assertEqual(has(found, end), is_in(number_at(end)), (found, end))

    def check_pair(self, plan, one, other):
        higher, lower, level = above(plan, one, other), above(plan, other, one), even(plan, one, other)
        self.check_set(higher, lambda width: sign_in(plan, ("above", one, other), width) > 0)
        self.check_set(level, lambda width: sign_in(plan, ("even", one, other), width) == 0)
        # The three sets are parts of all widths, so that none leaves out a single place.
        self.assertTrue(same(higher + lower + level, [ALL]))
        for set_, others in [(higher, lower + level), (lower, higher + level), (level, higher + lower)]:
            self.assertTrue(same(without([ALL], others), set_))
        self.assertEqual(even(other=one, one=other, plan=plan), level)
        self.assertEqual(above(other=other, one=one, plan=plan), higher)
        for word, broken_at in [("above", lower + level), ("even", higher + lower), ("below", higher + level),
                                ("not above", higher)]:
            self.check_claim(plan, (word, one, other), broken_at)

    def check_height(self, plan, tank, height):
        found = over(plan, tank, height)
        self.check_set(found, lambda width: sign_in(plan, ("not over", tank, height), width) > 0)
        self.assertEqual(over(height=height, tank=tank, plan=plan), found)
        self.check_claim(plan, ("not over", tank, height), found)

    def check_claim(self, plan, claim, broken_at):
        self.assertIs(holds(plan, claim), not broken_at)
        self.assertIs(holds(claim=claim, plan=plan), not broken_at)
        place, expected = broken(plan, claim), simplest_of_all(broken_at)
        self.assertEqual(broken(claim=claim, plan=plan), place)
        if expected is None or expected[0] != "root":
            self.assertEqual(place, expected)
        else:
            self.assertEqual(compare(place, expected), 0)
        if place is not None:
            self.assertNotIn(sign_in(plan, claim, number_at(place)), SIGNS[claim[0]])

    def check_steps(self, plan):
        for index, step in enumerate(plan.steps):
            if step[0] == "unless":
                self.check_set(over_by(plan, index), lambda width: done(plan, width)[0] == index)
                self.assertEqual(over_by(index=index, plan=plan), over_by(plan, index))
            elif step[0] == "open":
                for tank in range(len(plan.tanks)):
                    found = runs_in(plan, index, tank)
                    self.check_set(found, lambda width: runs(plan, index, tank, width))
                    self.assertEqual(runs_in(tank=tank, index=index, plan=plan), found)

    def check_script(self, plan, heights):
        many = len(plan.tanks)
        for one in range(many):
            for other in range(one, many):
                self.check_pair(plan, one, other)
            for height in heights:
                self.check_height(plan, one, height)
        self.check_steps(plan)


class Random(SetChecks):
    def test_random_scripts(self):
        source = random.Random(71)
        for _ in range(50):
            plan = some_script(source, some_words(source), source.randint(2, 4), source.choice([2, 4, 12]))
            self.check_script(plan, [told(Fraction(source.randint(0, 24), source.randint(1, 12)))])

    def test_random_scripts_of_several_ways(self):
        source = random.Random(72)
        for plan in lively_scripts(source, 40, 20):
            self.check_script(plan, [told(Fraction(source.randint(0, 24), source.randint(1, 12)))])

    def test_the_bounds(self):
        source = random.Random(73)
        for _ in range(25):
            plan = some_script(source, ["open"] * 4 + ["unless"] * 2)
            self.check_script(plan, [told(Fraction(source.randint(1, 10 ** 15), source.randint(1, 10 ** 15)))])
        for plan in lively_scripts(source, 3, 1):
            for height in [(1, 10 ** 15), (10 ** 15, 1), (10 ** 15, 10 ** 15 - 1), (-(10 ** 15), 1)]:
                self.check_height(plan, 0, height)

    def test_heights_that_levels_are_at(self):
        source = random.Random(74)
        for plan in lively_scripts(source, 15, 8):
            for width in source.sample(WIDTHS, 2):
                for tank, level in enumerate(done(plan, width)[1]):
                    self.check_height(plan, tank, told(level))


class Guarantees(SetChecks):
    def test_even_at_so_many_places_at_most(self):
        source = random.Random(75)
        most = 0
        for _ in range(1500):
            plan = some_script(source, ["open", "open", "open", "pour", "move", "open"], 3)
            opens = len([step for step in plan.steps if step[0] == "open" and plan.unknown in step[1]])
            for one, other in [(0, 1), (0, 2), (1, 2)]:
                found = even(plan, one, other)
                if found != [ALL]:
                    self.assertTrue(all(low == high for low, _, high, _ in found))
                    self.assertLessEqual(len(found), opens + (plan.unknown in (one, other)))
                    most = max(most, len(found))
        self.assertGreater(most, 1)

    def test_amounts_some_times_as_great(self):
        source = random.Random(76)
        for plan in lively_scripts(source, 20, 8):
            times = source.randint(2, 9)
            grown = Script([(width, amount * times) for width, amount in plan.tanks],
                           [step[:2] + (step[2] * times,) if step[0] == "pour" else step for step in plan.steps])
            for one in range(len(plan.tanks)):
                for other in range(one):
                    self.assertTrue(same(above(plan, one, other), above(grown, one, other)))
                    self.assertTrue(same(even(plan, one, other), even(grown, one, other)))


class Edges(SetChecks):
    def test_told_sets(self):
        for found, expected in [
                (above(CHAIN, 0, 1), [ALL]), (even(CHAIN, 1, 2), [ALL]), (above(CHAIN, 1, 2), []),
                (above(CHAIN, 2, 0), []), (over(CHAIN, 2, (3, 2)), []), (over(CHAIN, 2, (4, 3)),
                 [((1, 2), False, (2, 1), False)]),
                (over(CHAIN, 0, (3, 1)), [((0, 1), False, (1, 1), False)]),
                (above(HALT, 1, 0), [((0, 1), False, (3, 1), True)]),
                (above(HALT, 0, 1), [((3, 1), False, None, False)]), (even(HALT, 0, 1), []),
                (even(EVEN, 0, 1), [((2, 1), True, (2, 1), True)]),
                (over_by(HALT, 0), [((3, 1), False, None, False)]),
                (over_by(EVEN, 0), [((2, 1), False, None, False)]),
                (over_by(EVEN, 1), [((0, 1), False, (2, 1), False)])]:
            self.assertEqual(found, expected)

    def test_sets_of_roots(self):
        self.assertTrue(same(even(CHAIN, 2, 2), [ALL]))
        self.assertTrue(same(even(Script(NARROW.tanks, NARROW.steps[:2]), 2, 3), POINTS))
        self.assertTrue(same(over(CHAIN, 2, (1, 1)), [(LOW, False, HIGH, False)]))
        self.assertTrue(same(over(HIGH_THERE, 2, (100, 1)), POINTS))
        self.check_script(HIGH_THERE, [(100, 1), (1, 1)])

    def test_one_tank_alone(self):
        self.check_script(ALONE, [(0, 1), (3, 1), (-1, 2)])
        self.assertEqual(over(ALONE, 0, (3, 1)), [((0, 1), False, (2, 1), False)])
        self.assertEqual([above(ALONE, 0, 0), even(ALONE, 0, 0)], [[], [ALL]])

    def test_one_tank_twice(self):
        for plan in (CHAIN, HALT, NARROW, Script([(None, 0)], [])):
            for tank in range(len(plan.tanks)):
                self.assertEqual([above(plan, tank, tank), even(plan, tank, tank)], [[], [ALL]])
                self.assertEqual([holds(plan, (word, tank, tank)) for word in WORDS[:4]], [False, True, False, True])
                self.assertEqual([broken(plan, (word, tank, tank)) for word in WORDS[:4]], [(1, 1), None, (1, 1), None])

    def test_heights_from_0_down(self):
        for height in [(0, 1), (-1, 1), (-5, 7)]:
            self.assertEqual(over(CHAIN, 0, height), [ALL])
            self.assertEqual(broken(CHAIN, ("not over", 0, height)), (1, 1))
        empty = Script([(1, 0), (None, 0)], [])
        self.assertEqual([over(empty, 1, (0, 1)), over(empty, 1, (-1, 9))], [[], [ALL]])
        self.assertTrue(holds(empty, ("not over", 1, (0, 1))))

    def test_water_that_runs(self):
        tanks = [(1, 6), (None, 2), (2, 4)]
        plan = Script(tanks, [("open", [1, 2]), ("unless", 2, 0), ("open", [0, 1]), ("unless", 1, 2), ("open", [0, 2])])
        # Tank 1 stands at 2 / w, tank 2 at 2.
        self.assertEqual(runs_in(plan, 0, 1), [((1, 1), False, None, False)])
        self.assertEqual(runs_in(plan, 0, 2), [((0, 1), False, (1, 1), False)])
        self.assertEqual([runs_in(plan, 0, 0), runs_in(plan, 2, 2), runs_in(plan, 4, 1)], [[], [], []])
        self.assertEqual(runs_in(plan, 2, 1), [ALL])
        self.assertEqual([runs_in(plan, 4, 0), over_by(plan, 3)], [[], [ALL]])
        self.check_steps(plan)
        for steps in ([("open", [0, 1]), ("open", [0, 1])], [("open", [0, 2]), ("pour", 2, 0), ("open", [0, 2])]):
            self.assertEqual([runs_in(Script(tanks, steps), len(steps) - 1, k) for k in range(3)], [[], [], []])
        self.check_steps(Script(NARROW.tanks, NARROW.steps + [("open", [2, 3])]))
        self.assertTrue(same(runs_in(Script(NARROW.tanks, NARROW.steps + [("open", [2, 3])]), 5, 3), POINTS))

    def test_a_step_of_another_kind_that_lets_no_water_run(self):
        # A step is done only where no earlier `unless` ended the script.
        plan = Script([(2, 4), (None, 6)], [("unless", 0, 1), ("open", [0, 1])])
        self.assertEqual(runs_in(plan, 1, 0), [((0, 1), False, (3, 1), False)])
        self.assertEqual(runs_in(plan, 1, 1), [])

    def test_claims_broken_at_a_single_fraction(self):
        # Tank 2 stands at 6 * w / (1 + w) ** 2, greatest at 1, tank 3 at 3 / 2.
        plan = Script([(1, 6), (None, 0), (1, 0), (2, 3)], CHAIN.steps)
        for claim, expected in [(("below", 2, 3), (1, 1)), (("not above", 2, 3), None), (("above", 3, 2), (1, 1)),
                                (("even", 2, 3), (2, 1)), (("not over", 2, (3, 2)), None),
                                (("not over", 2, (7, 5)), (1, 1)), (("not over", 0, (11, 2)), (1, 12))]:
            self.assertEqual([broken(plan, claim), holds(plan, claim)], [expected, expected is None])

    def test_claims_broken_at_roots_alone(self):
        # Elsewhere tank 2 stands at 6 * w / (1 + w) ** 2, tank 0 at 6 / (1 + w).
        for claim in [("not over", 2, (100, 1)), ("not above", 2, 0), ("below", 2, 0), ("above", 0, 2)]:
            place = broken(HIGH_THERE, claim)
            self.assertEqual([place[0], compare(place, LOW)], ["root", 0])
            self.assertIs(holds(HIGH_THERE, claim), False)
        plan = Script(NARROW.tanks + [(1, 0), (2, 0)], NARROW.steps + [("pour", 4, 1)])
        self.assertTrue(same(even(plan, 4, 5), without([ALL], POINTS)))
        place = broken(plan, ("even", 4, 5))
        self.assertEqual([place[0], compare(place, LOW)], ["root", 0])
        self.assertEqual(broken(plan, ("above", 4, 5)), (1, 1))

    def test_a_claim_broken_at_one_root_of_two(self):
        # At the greater root alone tank 0, at 6 / (1 + w), is not above 3.
        plan = Script(NARROW.tanks, NARROW.steps[:4] + [("pour", 3, 2), ("unless", 0, 3), ("pour", 2, 100)])
        place = broken(plan, ("not over", 2, (100, 1)))
        self.assertEqual([place[0], compare(place, HIGH)], ["root", 0])

    def test_a_claim_broken_at_a_fraction_alone(self):
        # At the width 2 tank 1, at 4 / w, and tank 0 are even.
        place = broken(Script(EVEN.tanks, EVEN.steps + [("pour", 0, 9)]), ("not over", 0, (5, 1)))
        self.assertEqual(place, (2, 1))

    def test_nothing_is_kept(self):
        for plan in (CHAIN, HALT, NARROW, HIGH_THERE):
            for call, arguments in [(above, (0, 1)), (even, (1, 0)), (over, (1, (1, 2))), (over, (1, (100, 1))),
                                    (holds, (("above", 0, 1),)), (broken, (("not over", 1, (1, 1)),)),
                                    (broken, (("not over", 1, (100, 1)),)), (highest, (1,))]:
                self.check_nothing_kept(call, plan, *arguments)
        self.check_nothing_kept(over, HIGH_THERE, 2, (100, 1))
        self.check_nothing_kept(broken, HIGH_THERE, ("not over", 2, (100, 1)))
        self.check_nothing_kept(runs_in, NARROW, 1, 2)
        self.check_nothing_kept(over_by, NARROW, 2)


class Wrong(Checks):
    def test_tanks_that_there_are_not(self):
        for call in (above, even):
            for one, other, bad in [(3, 0, 3), (0, 3, 3), (4, 3, 4), (-1, 9, -1), (0, -2, -2), (3, 3, 3)]:
                self.check_error(UnknownTank, bad, call, CHAIN, one, other)
                self.check_error(UnknownTank, bad, call, other=other, one=one, plan=CHAIN)
        for bad in (3, -1, 100):
            self.check_error(UnknownTank, bad, over, CHAIN, bad, (1, 1))
            self.check_error(UnknownTank, bad, over, CHAIN, bad, (2, 4))
            self.check_error(UnknownTank, bad, highest, CHAIN, bad)
            self.check_error(UnknownTank, bad, highest, tank=bad, plan=CHAIN)
            for index in (0, 2, -1, 9):
                self.check_error(UnknownTank, bad, runs_in, CHAIN, index, bad)
        self.check_error(UnknownTank, 1, above, ALONE, 0, 1)

    def test_heights(self):
        for bad in [(2, 4), (1, 0), (1, -1), (0, 2), (True, 1), (1,), (), None, 1, [1, 1]]:
            self.check_error(InvalidFraction, bad, over, CHAIN, 0, bad)
            self.check_error(InvalidFraction, bad, over, height=bad, tank=2, plan=CHAIN)
            for call in (holds, broken):
                self.check_error(InvalidFraction, bad, call, CHAIN, ("not over", 0, bad))
                self.check_error(UnknownTank, 3, call, CHAIN, ("not over", 3, bad))

    def test_steps(self):
        plan = Script([(2, 4), (None, 6)], [("unless", 0, 1), ("open", [0, 1]), ("pour", 0, 1), ("scoop", 1, (1, 2)),
                                            ("move", 0, 1, (1, 2))])
        for bad in (-1, -5, 5, 6, 0, 2, 3, 4):
            self.check_error(UnknownStep, bad, runs_in, plan, bad, 0)
            self.check_error(UnknownStep, bad, runs_in, tank=1, index=bad, plan=plan)
        for bad in (-1, 5, 6, 1, 2, 3, 4):
            self.check_error(UnknownStep, bad, over_by, plan, bad)
            self.check_error(UnknownStep, bad, over_by, index=bad, plan=plan)
        self.check_error(UnknownStep, 0, over_by, Script([(None, 1)], []), 0)
        self.check_error(UnknownStep, 0, runs_in, Script([(None, 1)], []), 0, 0)

    def test_claims(self):
        for call in (holds, broken):
            for bad in [("Above", 0, 1), ("", 0, 1), ("over", 0, (1, 1)), ("not", 0, 1), ("not even", 0, 1),
                        ("above ", 9, 9), ("shut", 9, (2, 4)), ("not below", 0, [1])]:
                self.check_error(InvalidClaim, bad, call, CHAIN, bad)
                self.check_error(InvalidClaim, bad, call, claim=bad, plan=CHAIN)
            for word in WORDS[:4]:
                for one, other, bad in [(3, 0, 3), (0, 3, 3), (4, 3, 4), (-1, 9, -1), (2, -2, -2)]:
                    self.check_error(UnknownTank, bad, call, CHAIN, (word, one, other))
            for bad in (3, -1):
                self.check_error(UnknownTank, bad, call, CHAIN, ("not over", bad, (1, 1)))

    def test_a_script_answers_the_same_behind_refused_questions(self):
        before = [above(NARROW, 2, 3), highest(NARROW, 2), broken(NARROW, ("not over", 2, (1, 1)))]
        self.check_error(InvalidClaim, ("shut", 0, 1), holds, NARROW, ("shut", 0, 1))
        self.check_error(UnknownStep, 4, over_by, NARROW, 4)
        self.check_error(UnknownTank, 4, above, NARROW, 4, 0)
        self.assertEqual([above(NARROW, 2, 3), highest(NARROW, 2), broken(NARROW, ("not over", 2, (1, 1)))], before)


if __name__ == "__main__":
    unittest.main()
