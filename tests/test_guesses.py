"""Widths told back from what was seen, and the script that tells most, held against runs at many widths."""

import random
import unittest
from fractions import Fraction

from oracle import is_near, near, root, told
from streams import (
    ALL, WIDTHS, WORDS, done, ends_of, lively_scripts, number_at, sign_of, some_script, some_words)
from test_signs import SetChecks
from test_ways import CHAIN, EVEN, HALT, HIGH, LOW, NARROW, POINTS
from valvelevels.errors import InvalidClaim, InvalidRange, UnknownTank
from valvelevels.guesses import fitting, tells_most, told_back
from valvelevels.places import compare, has, places, same, simplest, without
from valvelevels.scripts import Script
from valvelevels.signs import even
from valvelevels.ways import ways

LOOKS = ["above", "even", "below"]
SIGNS = {"above": 1, "even": 0, "below": -1}
PLAIN, OPENED = Script([(2, 4), (None, 6)], []), Script([(2, 4), (None, 6)], [("open", [0, 1])])
THREE = ((3, 1), True, (3, 1), True)
BELOW, BEYOND = ((0, 1), False, (3, 1), False), ((3, 1), False, None, False)
OVERLAPPING = [((1, 1), True, (4, 1), False), ((2, 1), False, (5, 1), True), ((4, 1), True, (4, 1), True)]
NO_RANGES = [((2, 1), True, (1, 1), True), ((0, 1), True, (1, 1), True), ((1, 1), False, (1, 1), True), (), None,
             ((1, 1), True, None, True), ((2, 4), True, (3, 1), True),
             (("root", [1], (0, 1), (1, 1)), True, None, False)]


def words_at(plan, one, other, place):
    """The word for what is seen of two tanks at the end of a script, at a place."""
    levels = done(plan, number_at(place))[1]
    sign = sign_of(levels[one] - levels[other])
    return [word for word in LOOKS if SIGNS[word] == sign][0]


def places_of(known, *lists):
    """Places of a known set: its ends and those of other lists, and one between each two of them."""
    ordered = []
    for end in sorted(ends_of(known, *lists), key=near):
        if not ordered or not is_near(near(end), near(ordered[-1])):
            ordered.append(end)
    between = [simplest((low, False, high, False)) for low, high in zip([(0, 1)] + ordered, ordered + [None])]
    return [place for place in ordered + between if has(known, place)]


def counted(plan, known, one, other):
    """How many words may be seen at a known set."""
    spots = places_of(known, even(plan, one, other), *[widths for _, _, widths in ways(plan)])
    return len({words_at(plan, one, other, place) for place in spots})


def some_known(source, *plans):
    """A list of ranges, some with ends at which the ways of scripts meet, or levels are even."""
    ends = [told(width) for width in source.sample(WIDTHS, 6)]
    for plan in plans:
        ends += ends_of(*[widths for _, _, widths in ways(plan)])
        if len(plan.tanks) > 1:
            ends += ends_of(even(plan, 0, 1))
    found = []
    for _ in range(source.randint(1, 5)):
        low, high = source.choice(ends), source.choice(ends)
        order = compare(low, high)
        low_in, high_in = source.random() < 0.5, source.random() < 0.5
        if order < 0:
            found.append((low, low_in, high, high_in))
        elif order == 0:
            found.append((low, True, low, True))
        else:
            found.append((low, low_in, None, False) if source.random() < 0.5 else ((0, 1), False, high, high_in))
    return found


def some_looks(source, plan, most=3):
    """What is seen of a script at some width, and now and then what is not."""
    many, levels = len(plan.tanks), done(plan, source.choice(WIDTHS))[1]
    found = []
    for _ in range(source.randint(0, most)):
        one, other = source.randrange(many), source.randrange(many)
        sign = sign_of(levels[one] - levels[other])
        word = [word for word in LOOKS if SIGNS[word] == sign][0]
        found.append((one, word if source.random() < 0.9 else source.choice(LOOKS), other))
    return found


class Fitting(SetChecks):
    def fits(self, plan, seen, width):
        levels = done(plan, width)[1]
        return all(sign_of(levels[one] - levels[other]) == SIGNS[word] for one, word, other in seen)

    def check_fitting(self, plan, seen):
        found = fitting(plan, seen)
        self.check_set(found, lambda width: self.fits(plan, seen, width))
        self.assertEqual(fitting(seen=seen, plan=plan), found)
        self.assertEqual(told_back([plan], [seen]), found)
        # At no end of a way, and at no width at which levels are even, is there another answer.
        for place in places_of([ALL], *[widths for _, _, widths in ways(plan)],
                               *[even(plan, one, other) for one, _, other in seen]):
            self.assertEqual(has(found, place), self.fits(plan, seen, number_at(place)))
        return found

    def check_told_back(self, plans, seen):
        found = told_back(plans, seen)
        self.check_set(found, lambda width: all(self.fits(*pair, width) for pair in zip(plans, seen)))
        self.assertEqual(told_back(seen=seen, plans=plans), found)
        # What lies in the sets of all scripts, and nothing else, is left.
        outside = [stretch for pair in zip(plans, seen) for stretch in without([ALL], fitting(*pair))]
        self.assertTrue(same(found, without([ALL], outside)))
        return found

    def test_told_sets(self):
        for plan, seen, expected in [
                (PLAIN, [], [ALL]), (PLAIN, [(0, "above", 1)], [BEYOND]), (PLAIN, [(1, "below", 0)], [BEYOND]),
                (PLAIN, [(0, "even", 1)], [THREE]), (PLAIN, [(0, "below", 1)], [BELOW]),
                (PLAIN, [(0, "below", 1), (1, "below", 0)], []), (PLAIN, [(0, "even", 1)] * 6, [THREE]),
                (OPENED, [(0, "even", 1)], [ALL]), (OPENED, [(0, "above", 1)], []),
                (CHAIN, [(0, "above", 1), (1, "even", 2)], [ALL]), (Script([(None, 0)], []), [], [ALL]),
                (HALT, [(1, "above", 0)], [((0, 1), False, (3, 1), True)]),
                (EVEN, [(0, "even", 1)], [((2, 1), True, (2, 1), True)])]:
            with self.subTest(seen=seen):
                self.assertEqual(self.check_fitting(plan, seen), expected)

    def test_one_tank_twice(self):
        for plan in (PLAIN, HALT, NARROW, Script([(None, 3)], [("scoop", 0, (1, 2))])):
            for tank in range(len(plan.tanks)):
                found = [self.check_fitting(plan, [(tank, word, tank)]) for word in LOOKS]
                self.assertEqual(found, [[], [ALL], []])

    def test_roots(self):
        plan = Script(NARROW.tanks, NARROW.steps[:2])
        self.assertTrue(same(self.check_fitting(plan, [(2, "even", 3)]), POINTS))
        self.assertTrue(same(self.check_fitting(plan, [(2, "above", 3)]), [(LOW, False, HIGH, False)]))
        self.assertTrue(same(self.check_fitting(plan, [(2, "even", 3), (0, "above", 1)]), POINTS))
        # At the greater root tank 0, at 6 / (1 + w), is not above 3 / 2.
        plan = Script(plan.tanks + [(2, 3)], plan.steps)
        self.assertTrue(same(self.check_fitting(plan, [(2, "even", 3), (0, "below", 4)]), POINTS[1:]))

    def test_told_back(self):
        for plans, seen, expected in [
                ([], [], [ALL]), ([PLAIN, OPENED], [[(1, "above", 0)], [(0, "even", 1)]], [BELOW]),
                ([PLAIN, OPENED], [[], []], [ALL]), ([PLAIN, OPENED], [[(0, "even", 1)], [(0, "above", 1)]], []),
                ([PLAIN, PLAIN], [[(0, "even", 1)], []], [THREE]),
                ([PLAIN, CHAIN], [[(0, "above", 1)], [(2, "even", 1)]], [BEYOND]),
                ([PLAIN, Script([(None, 5)], [])], [[(0, "above", 1)], [(0, "even", 0)]], [BEYOND]),
                ([PLAIN, EVEN, HALT], [[(0, "below", 1)], [(0, "even", 1)], []], [((2, 1), True, (2, 1), True)])]:
            with self.subTest(seen=seen):
                self.assertEqual(self.check_told_back(plans, seen), expected)

    def test_random_scripts(self):
        source = random.Random(131)
        for _ in range(60):
            plan = some_script(source, some_words(source), source.randint(2, 4), source.choice([2, 4, 12]))
            self.check_fitting(plan, some_looks(source, plan))
        for plan in lively_scripts(source, 40, 20):
            self.check_fitting(plan, some_looks(source, plan))

    def test_random_lists(self):
        source = random.Random(132)
        parts = 0
        plans = lively_scripts(source, 60, 25)
        for k in range(0, 60, 3):
            chosen = plans[k:k + 3]
            parts += self.check_told_back(chosen, [some_looks(source, plan, 1) for plan in chosen]) not in ([], [ALL])
        self.assertGreater(parts, 3)

    def test_the_bounds(self):
        source = random.Random(133)
        for _ in range(8):
            plans = [some_script(source, WORDS) for _ in range(6)]
            width = source.choice(WIDTHS)
            seen = []
            for plan in plans:
                levels = done(plan, width)[1]
                pairs = [source.sample(range(4), 2) for _ in range(6)]
                signs = [(one, sign_of(levels[one] - levels[other]), other) for one, other in pairs]
                seen.append([(one, ["even", "above", "below"][sign], other) for one, sign, other in signs])
            self.assertTrue(has(self.check_told_back(plans, seen), told(width)))
            self.check_fitting(plans[0], seen[0])

    def test_nothing_is_kept(self):
        self.check_nothing_kept(fitting, PLAIN, [])
        self.check_nothing_kept(fitting, NARROW, [(2, "below", 3)])
        self.check_nothing_kept(told_back, [], [])
        self.check_nothing_kept(told_back, [NARROW, HALT], [[(2, "below", 3)], [(0, "above", 1)]])


class TellsMost(SetChecks):
    def check_most(self, plans, known, one, other):
        numbers = [counted(plan, known, one, other) for plan in plans]
        expected = numbers.index(max(numbers))
        self.assertEqual(tells_most(plans, known, one, other), expected)
        self.assertEqual(tells_most(other=other, one=one, known=known, plans=plans), expected)
        return expected

    def test_told_scripts(self):
        around = [((1, 1), True, (5, 1), True)]
        for plans, known, expected in [
                ([OPENED, PLAIN], around, 1), ([PLAIN, OPENED], around, 0), ([OPENED, OPENED], around, 0),
                ([OPENED, PLAIN, PLAIN], OVERLAPPING, 1), ([OPENED, PLAIN], [THREE], 0),
                ([OPENED, PLAIN], [((3, 1), True, (4, 1), True)], 1), ([OPENED, PLAIN], [BEYOND], 0),
                ([OPENED, HALT, PLAIN], [ALL], 2), ([OPENED], [((1, 3), True, (1, 3), True)], 0),
                # Levels are even at 2 alone, with parts of widths on its two sides.
                ([HALT, EVEN], [ALL], 1), ([HALT, EVEN], [((2, 1), True, (3, 1), True)], 1)]:
            with self.subTest(known=known):
                self.assertEqual(self.check_most(plans, known, 0, 1), expected)

    def test_at_roots(self):
        plan, dry = Script(NARROW.tanks, NARROW.steps[:2]), Script(NARROW.tanks, [])
        near = root([1, -4, 1], 0, Fraction(1, 2))
        for known, expected in [(POINTS, 0), ([(LOW, True, LOW, True)], 0), ([(LOW, True, (1, 1), True)], 1),
                                ([(LOW, False, (1, 1), True)], 0), ([ALL], 1), ([((1, 9), True, near, False)], 0),
                                ([((1, 9), True, near, True)], 1), ([((1, 9), False, near, True), BEYOND], 1)]:
            self.assertEqual(self.check_most([dry, plan], known, 2, 3), expected)

    def test_one_tank_twice(self):
        self.assertEqual(self.check_most([OPENED, PLAIN, CHAIN], [ALL], 1, 1), 0)

    def test_random_lists(self):
        source = random.Random(134)
        found = {}
        plans = lively_scripts(source, 60, 25)
        for k in range(0, 60, 3):
            chosen = plans[k:k + 3] + [source.choice(plans)]
            many = min(len(plan.tanks) for plan in chosen)
            one, other = source.randrange(many), source.randrange(many)
            found[self.check_most(chosen, some_known(source, *chosen), one, other)] = 1
        for _ in range(60):
            chosen = [some_script(source, some_words(source), source.randint(2, 4)) for _ in range(3)]
            found[self.check_most(chosen, some_known(source, *chosen), 0, 1)] = 1
        self.assertGreater(len(found), 2)

    def test_the_bounds(self):
        source = random.Random(135)
        for _ in range(2):
            spots = []
            while len(spots) < 10:
                spots += places([source.randint(-10 ** 6, 10 ** 6) for _ in range(7)] + [1])
            known = []
            while len(known) < 30:
                low, high = source.choice(spots), source.choice(spots)
                if compare(low, high) < 0:
                    known.append((low, source.random() < 0.5, high, source.random() < 0.5))
            self.check_most([some_script(source, WORDS) for _ in range(6)], known, *source.sample(range(4), 2))

    def test_nothing_is_kept(self):
        self.check_nothing_kept(tells_most, [OPENED, NARROW], POINTS, 0, 1)


class Wrong(SetChecks):
    def test_tanks_that_there_are_not(self):
        for one, other, bad in [(2, 0, 2), (0, 2, 2), (3, 2, 3), (-1, 9, -1), (0, -2, -2), (2, 2, 2)]:
            self.check_error(UnknownTank, bad, fitting, PLAIN, [(0, "even", 1), (one, "even", other)])
            self.check_error(UnknownTank, bad, fitting, seen=[(0, "Even", 1), (one, "", other)], plan=PLAIN)
            self.check_error(UnknownTank, bad, told_back, [CHAIN, PLAIN], [[], [(one, "even", other), (9, "", 9)]])
            self.check_error(UnknownTank, bad, told_back, seen=[[(0, "no", 0)], [(one, "above", other)]],
                             plans=[PLAIN, PLAIN])
            self.check_error(UnknownTank, bad, tells_most, [PLAIN, OPENED], [ALL], one, other)
            self.check_error(UnknownTank, bad, tells_most, other=other, one=one, known=[None], plans=[PLAIN, CHAIN])
        self.check_error(UnknownTank, 2, tells_most, [CHAIN, PLAIN], [], 2, 0)
        self.check_error(UnknownTank, 2, told_back, [CHAIN, PLAIN], [[(2, "even", 0)], [(1, "even", 2)]])
        self.check_error(UnknownTank, 3, told_back, [CHAIN, PLAIN], [[(3, "even", 0)], [(1, "even", 2)]])

    def test_words(self):
        for bad in ["Above", "", "not above", "over", "not over", "evens", "above ", "a", None, 0, ["above"]]:
            self.check_error(InvalidClaim, bad, fitting, PLAIN, [(0, "even", 1), (0, bad, 1), (0, "Even", 1)])
            self.check_error(InvalidClaim, bad, fitting, seen=[(0, bad, 0)], plan=PLAIN)
            self.check_error(InvalidClaim, bad, told_back, [PLAIN, CHAIN], [[(0, "above", 1)], [(2, bad, 1)]])

    def test_known_sets(self):
        for bad in NO_RANGES:
            self.check_error(InvalidRange, bad, tells_most, [PLAIN], [bad], 0, 1)
            self.check_error(InvalidRange, bad, tells_most, [PLAIN], [ALL, bad, None], 0, 1)
            self.check_error(InvalidRange, bad, tells_most, other=0, one=0, known=POINTS + [bad], plans=[])
        self.check_error(InvalidRange, [], tells_most, [PLAIN, CHAIN], [], 0, 1)
        self.check_error(InvalidRange, [], tells_most, [], [], 0, 1)
        for known in ([ALL], POINTS, OVERLAPPING):
            self.check_error(InvalidRange, known, tells_most, [], known, 0, 1)
            self.check_error(InvalidRange, known, tells_most, other=-1, one=9, known=known, plans=[])

    def test_a_script_answers_the_same_behind_refused_questions(self):
        before = [fitting(NARROW, [(2, "even", 3)]), tells_most([NARROW, HALT], [ALL], 0, 1)]
        self.check_error(InvalidClaim, "odd", fitting, NARROW, [(2, "odd", 3)])
        self.check_error(UnknownTank, 2, tells_most, [NARROW, HALT], [ALL], 0, 2)
        self.check_error(InvalidRange, [], tells_most, [NARROW, HALT], [], 0, 1)
        self.assertEqual([fitting(NARROW, [(2, "even", 3)]), tells_most([NARROW, HALT], [ALL], 0, 1)], before)


if __name__ == "__main__":
    unittest.main()
