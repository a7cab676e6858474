"""Which scripts are best, held against runs at many widths and at all places at which another one may become best."""

import itertools
import random
import unittest

from oracle import told
from streams import (
    ALL, WIDTHS, WORDS, done, is_told_well, lively_scripts, number_at, sign_of, some_script, some_step, some_words)
from test_guesses import BELOW, BEYOND, LOOKS, NO_RANGES, OVERLAPPING, THREE, places_of, some_known, words_at
from test_signs import SetChecks
from test_ways import CHAIN, EVEN, HALT, NARROW, POINTS
from valvelevels.choices import advice, best, choose, fewest
from valvelevels.errors import InvalidRange, UnknownTank
from valvelevels.places import has, places, same, without
from valvelevels.scripts import Script
from valvelevels.ways import ways

TANKS = [(2, 4), (None, 6)]
PLANS = [Script(TANKS, []), Script(TANKS, [("open", [0, 1])]), Script(TANKS, [("scoop", 0, (1, 2))])]
UP_TO = ((0, 1), False, (3, 1), True)
FROM = ((3, 1), True, None, False)
# At the roots alone the first one puts 100 into tank 2.
ROOTED = [Script(NARROW.tanks, NARROW.steps + [("pour", 2, 100)]), Script(NARROW.tanks, [("pour", 2, 50)])]


def best_at(plans, tank, width):
    """The indexes of the scripts that are best at a width of any kind."""
    levels = [done(plan, width)[1][tank] for plan in plans]
    return [k for k, level in enumerate(levels) if all(sign_of(level - other) >= 0 for other in levels)]


def turning(plans, sets):
    """Places enough to tell all sets of best scripts: where a way ends, a set ends, and between."""
    return places_of([ALL], *sets, *[widths for plan in plans for _, _, widths in ways(plan)])


class ChoiceChecks(SetChecks):
    def check_best(self, plans, tank):
        found = best(plans, tank)
        self.assertEqual(best(tank=tank, plans=plans), found)
        self.check_new(found, [])
        self.assertEqual(len(found), len(plans))
        for told_set in found:
            self.assertTrue(is_told_well(told_set))
        for place in turning(plans, found) + [told(width) for width in WIDTHS]:
            self.assertEqual([k for k, spots in enumerate(found) if has(spots, place)],
                             best_at(plans, tank, number_at(place)))
        self.assertTrue(same([stretch for spots in found for stretch in spots], [ALL]))
        return found

    def check_fewest(self, plans, tank, found):
        spots = turning(plans, found)
        expected = None
        for size in range(1, len(plans) + 1):
            for chosen in itertools.combinations(range(len(plans)), size):
                if expected is None and all(any(has(found[k], place) for k in chosen) for place in spots):
                    expected = list(chosen)
        self.assertEqual(fewest(plans, tank), expected)
        self.assertEqual(fewest(tank=tank, plans=plans), expected)
        return expected

    def chosen(self, found, spots):
        """The first index at whose set all of some places lie."""
        fits = [k for k, told_set in enumerate(found) if all(has(told_set, place) for place in spots)]
        return fits[0] if fits else None

    def check_choice(self, plans, known, tank, found):
        spots = places_of(known, *found, *[widths for plan in plans for _, _, widths in ways(plan)])
        expected = self.chosen(found, spots)
        self.assertEqual(choose(plans, known, tank), expected)
        self.assertEqual(choose(tank=tank, known=known, plans=plans), expected)
        return expected

    def check_advice(self, plans, known, look, one, other, tank, found):
        ends = [widths for plan in plans + [look] for _, _, widths in ways(plan)]
        spots = places_of(known, *found, *ends, self.even_ends(look, one, other))
        expected = []
        for word in LOOKS:
            seen = [place for place in spots if words_at(look, one, other, place) == word]
            if seen:
                expected.append((word, self.chosen(found, seen)))
        self.assertEqual(advice(plans, known, look, one, other, tank), expected)
        self.assertEqual(advice(tank=tank, other=other, one=one, look=look, known=known, plans=plans), expected)
        return expected

    def even_ends(self, look, one, other):
        """Ranges whose ends are all places at which the levels of two tanks may come to stand otherwise."""
        return [stretch for _, forms, widths in ways(look) for stretch in crossings(forms[one], forms[other])]

    def check_all(self, source, plans):
        many = min(len(plan.tanks) for plan in plans)
        tank = source.randrange(many)
        found = self.check_best(plans, tank)
        size = len(self.check_fewest(plans, tank, found))
        known = some_known(source, *plans)
        self.check_choice(plans, known, tank, found)
        look = source.choice(plans)
        pair = source.randrange(len(look.tanks)), source.randrange(len(look.tanks))
        self.check_advice(plans, known, look, *pair, tank, found)
        return size


def crossings(one, other):
    """Single places at which two forms are the same, found by their tops and bottoms."""
    product = [0] * 40
    for sign, (above, below) in [(1, (one[0], other[1])), (-1, (other[0], one[1]))]:
        for k, number in enumerate(above):
            for j, factor in enumerate(below):
                product[k + j] += sign * number * factor
    while product and product[-1] == 0:
        product.pop()
    return [(place, True, place, True) for place in places(product)] if product else []


class Best(ChoiceChecks):
    def test_told_sets(self):
        for plans, tank, expected in [
                (PLANS, 0, [[FROM], [UP_TO], []]), (PLANS, 1, [[UP_TO], [FROM], [UP_TO]]), (PLANS[:1], 0, [[ALL]]),
                (PLANS[:1] * 3, 1, [[ALL]] * 3), ([PLANS[0], PLANS[2]], 0, [[ALL], []]),
                ([PLANS[0], PLANS[2]], 1, [[ALL], [ALL]]), ([PLANS[2], CHAIN], 0, [
                    [((5, 1), True, None, False)], [((0, 1), False, (5, 1), True)]]),
                ([Script([(None, 3)], []), Script([(5, 2), (None, 3)], [])], 0,
                 [[((0, 1), False, (15, 2), True)], [((15, 2), True, None, False)]]),
                ([Script([(None, 0)], []), Script([(5, 0), (None, 3)], [])], 0, [[ALL], [ALL]])]:
            with self.subTest(tank=tank, expected=expected):
                self.assertEqual(self.check_best(plans, tank), expected)

    def test_at_single_fractions_and_roots(self):
        # The first one goes on at 2 alone.
        plans = [Script(EVEN.tanks, EVEN.steps[:2] + [("pour", 0, 9)]), Script(EVEN.tanks, [("pour", 0, 1)])]
        spot = [((2, 1), True, (2, 1), True)]
        self.assertEqual(self.check_best(plans, 0), [spot, without([ALL], spot)])
        found = self.check_best(ROOTED, 2)
        self.assertTrue(same(found[0], POINTS))
        self.assertTrue(same(found[1], without([ALL], POINTS)))

    def test_one_script_twice(self):
        found = self.check_best([PLANS[1], PLANS[0], PLANS[1]], 0)
        self.assertEqual(found, [[UP_TO], [FROM], [UP_TO]])
        found[0].append(1)
        self.assertEqual(found[2], [UP_TO])

    def test_nothing_is_kept(self):
        for plans, tank in [(PLANS, 0), (PLANS[:1], 0), (PLANS[:1] * 2, 1), (ROOTED, 2)]:
            self.check_nothing_kept(best, plans, tank)
            self.check_nothing_kept(fewest, plans, tank)


class Fewest(ChoiceChecks):
    def check_told(self, plans, tank, expected):
        self.assertEqual(self.check_fewest(plans, tank, best(plans, tank)), expected)

    def test_told_lists(self):
        self.check_told(PLANS, 0, [0, 1])
        self.check_told(PLANS, 1, [0, 1])
        self.check_told(PLANS[:1], 0, [0])
        self.check_told(PLANS[2:], 0, [0])
        self.check_told([PLANS[2], PLANS[0]], 0, [1])
        self.check_told([PLANS[2], PLANS[0]], 1, [0])

    def test_several_shortest_lists(self):
        self.check_told([PLANS[0], PLANS[1], PLANS[0], PLANS[1]], 0, [0, 1])
        self.check_told([PLANS[2], PLANS[1], PLANS[0], PLANS[1]], 0, [1, 2])
        self.check_told([PLANS[1], PLANS[1], PLANS[0], PLANS[0]], 0, [0, 2])
        self.check_told([PLANS[2], PLANS[0], PLANS[2]], 1, [0])
        # One that is nowhere behind both is chosen alone, though it stands last.
        both = Script(TANKS, [("open", [0, 1]), ("pour", 0, 12)])
        self.check_told(PLANS + [both], 0, [3])

    def test_one_for_single_places(self):
        self.check_told(ROOTED, 2, [0, 1])
        self.check_told(ROOTED + [Script(NARROW.tanks, [("pour", 2, 200)])], 2, [2])


class Choose(ChoiceChecks):
    def check_told(self, plans, known, tank, expected):
        self.assertEqual(self.check_choice(plans, known, tank, best(plans, tank)), expected)

    def test_told_choices(self):
        for known, expected in [
                ([], 0), ([ALL], None), ([THREE], 0), ([BELOW], 1), ([UP_TO], 1), ([BEYOND], 0), ([FROM], 0),
                ([BELOW, BEYOND], None), ([((4, 1), True, None, False)], 0), ([THREE, THREE], 0), (OVERLAPPING, None),
                (OVERLAPPING[:1], None), ([((1, 1), True, (3, 1), True), ((2, 1), False, (5, 2), False), THREE], 1)]:
            with self.subTest(known=known):
                self.check_told(PLANS, known, 0, expected)
        self.check_told(PLANS[::-1], [], 0, 0)
        self.check_told(PLANS[::-1], [THREE], 0, 1)

    def test_at_roots(self):
        self.check_told(ROOTED, POINTS, 2, 0)
        self.check_told(ROOTED, POINTS[:1], 2, 0)
        self.check_told(ROOTED, without([ALL], POINTS), 2, 1)
        self.check_told(ROOTED, [ALL], 2, None)
        self.check_told(ROOTED, [((1, 100), True, (1, 99), True)], 2, 1)

    def test_nothing_is_kept(self):
        for known in ([], [ALL], POINTS, OVERLAPPING):
            self.check_nothing_kept(choose, ROOTED, known, 2)
            self.check_nothing_kept(advice, ROOTED, known, NARROW, 2, 3, 2)


class Advice(ChoiceChecks):
    def check_told(self, plans, known, look, one, other, tank, expected):
        self.assertEqual(self.check_advice(plans, known, look, one, other, tank, best(plans, tank)), expected)

    def test_told_advice(self):
        for known, one, other, expected in [
                ([], 0, 1, []), ([THREE], 0, 1, [("even", 0)]),
                ([ALL], 0, 1, [("above", 0), ("even", 0), ("below", 1)]),
                ([ALL], 1, 0, [("above", 1), ("even", 0), ("below", 0)]), ([ALL], 0, 0, [("even", None)]),
                ([BEYOND], 0, 1, [("above", 0)]), ([UP_TO], 1, 1, [("even", 1)]), ([BELOW], 0, 1, [("below", 1)]),
                (OVERLAPPING, 0, 1, [("above", 0), ("even", 0), ("below", 1)])]:
            with self.subTest(known=known):
                self.check_told(PLANS, known, PLANS[0], one, other, 0, expected)
        self.check_told(PLANS, [ALL], PLANS[1], 0, 1, 0, [("even", None)])
        self.check_told(PLANS, [ALL], CHAIN, 1, 2, 0, [("even", None)])
        self.check_told(PLANS[:1], [ALL], CHAIN, 0, 2, 1, [("above", 0)])

    def test_a_look_that_goes_in_several_ways(self):
        self.check_told(PLANS, [ALL], HALT, 0, 1, 0, [("above", 0), ("below", 1)])
        self.check_told(PLANS, [ALL], EVEN, 0, 1, 0, [("above", None), ("even", 1), ("below", 1)])

    def test_at_roots(self):
        look = Script(NARROW.tanks, NARROW.steps[:2])
        self.check_told(ROOTED, [ALL], look, 2, 3, 2, [("above", 1), ("even", 0), ("below", 1)])
        self.check_told(ROOTED, POINTS, look, 3, 2, 2, [("even", 0)])


class Random(ChoiceChecks):
    def test_random_scripts(self):
        source = random.Random(141)
        sizes = {}
        for _ in range(40):
            first = some_script(source, some_words(source), source.randint(2, 4), source.choice([3, 12]))
            plans = [first, first.without(0) if len(first) else first]
            while len(plans) < 4:
                words = some_words(source)
                many = len(first.tanks)
                plans.append(Script(first.tanks, [some_step(source, word, many) for word in words]))
            sizes[self.check_all(source, plans)] = 1
        self.assertGreater(len(sizes), 2)

    def test_random_scripts_of_several_ways(self):
        source = random.Random(142)
        plans = lively_scripts(source, 36, 15)
        for k in range(0, 36, 3):
            self.check_all(source, plans[k:k + 3] + [source.choice(plans)])

    def test_the_bounds(self):
        source = random.Random(143)
        for _ in range(4):
            plans = [some_script(source, WORDS) for _ in range(6)]
            found = self.check_best(plans, 0)
            self.check_fewest(plans, 0, found)
            cuts = [(k, 3) for k in range(1, 60) if k % 3][:31]
            known = [(low, False, high, True) for low, high in zip(cuts, cuts[1:])]
            self.assertEqual(len(known), 30)
            self.check_choice(plans, known, 0, found)
            self.check_choice(plans, known[::2], 0, found)
            self.check_advice(plans, known, plans[0], 0, 1, 0, found)


class Wrong(SetChecks):
    def test_tanks_that_there_are_not(self):
        lists = [[PLANS[0], CHAIN], [CHAIN, PLANS[0]], [CHAIN, PLANS[0], Script([(None, 1)], [])]]
        for plans in lists:
            for bad in (2, 3, -1):
                for call in (best, fewest):
                    self.check_error(UnknownTank, bad, call, plans, bad)
                    self.check_error(UnknownTank, bad, call, tank=bad, plans=plans)
                self.check_error(UnknownTank, bad, choose, plans, [None], bad)
                self.check_error(UnknownTank, bad, advice, plans, [None], CHAIN, 8, 9, bad)
        self.check_error(UnknownTank, 1, best, lists[2], 1)
        self.check_error(UnknownTank, 1, choose, lists[2], [], 1)
        for one, other, bad in [(3, 0, 3), (0, 3, 3), (4, 3, 4), (-1, 9, -1), (2, -2, -2)]:
            self.check_error(UnknownTank, bad, advice, PLANS, [None], CHAIN, one, other, 1)
            self.check_error(UnknownTank, bad, advice, tank=0, other=other, one=one, look=CHAIN, known=[], plans=PLANS)
        self.check_error(UnknownTank, 2, advice, [CHAIN], [ALL], PLANS[0], 0, 2, 2)

    def test_known_sets(self):
        for bad in NO_RANGES:
            self.check_error(InvalidRange, bad, choose, PLANS, [bad], 0)
            self.check_error(InvalidRange, bad, choose, tank=1, known=POINTS + [bad, ()], plans=PLANS)
            self.check_error(InvalidRange, bad, advice, PLANS, [ALL, bad], CHAIN, 0, 2, 1)
            self.check_error(InvalidRange, bad, advice, tank=0, other=1, one=1, look=CHAIN, known=[bad], plans=PLANS)

    def test_scripts_answer_the_same_behind_refused_questions(self):
        before = [best(ROOTED, 2), fewest(ROOTED, 2), choose(ROOTED, POINTS, 2)]
        self.check_error(UnknownTank, 4, best, ROOTED, 4)
        self.check_error(InvalidRange, None, choose, ROOTED, [None], 2)
        self.assertEqual([best(ROOTED, 2), fewest(ROOTED, 2), choose(ROOTED, POINTS, 2)], before)


if __name__ == "__main__":
    unittest.main()
