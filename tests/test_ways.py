"""The ways of scripts, and lists of ways that are right or wrong."""

import random
import unittest
from fractions import Fraction

import oracle
from checking import Checks
from oracle import height, product, read, root, told
from streams import (
    ALL, WIDTHS, Quad, beside, done, ends_of, expected_run, is_told_well, lively_scripts, number_at, sign_of,
    some_script, some_words)
from test_runs import NO_WIDTHS
from valvelevels.errors import InvalidFraction, InvalidRange
from valvelevels.places import compare, has, same
from valvelevels.scripts import Script
from valvelevels.ways import judge_ways, run, way_at, ways

CHAIN = Script([(1, 6), (None, 0), (1, 0)], [("open", [0, 1]), ("open", [1, 2])])
HALT = Script([(2, 4), (None, 6)], [("unless", 0, 1), ("open", [0, 1]), ("scoop", 0, (1, 2))])
# Tank 2 stands at 6 * w / (1 + w) ** 2, which is 1, as tank 3 is, at the roots of 1 - 4 * w + w * w alone.
NARROW = Script([(1, 6), (None, 0), (1, 0), (1, 1)],
                [("open", [0, 1]), ("open", [1, 2]), ("unless", 2, 3), ("unless", 3, 2), ("pour", 2, 1)])
LOW, HIGH = root([1, -4, 1], 0, 1), root([1, -4, 1], 3, 4)
POINTS = [(LOW, True, LOW, True), (HIGH, True, HIGH, True)]
EVEN = Script([(1, 2), (None, 4)], [("unless", 0, 1), ("unless", 1, 0), ("open", [0, 1])])


def is_form(form):
    """That a form is told in lowest terms."""
    top, bottom = form
    numbers = top + bottom
    return (bool(bottom) and bottom[-1] > 0 and (not top or top[-1] != 0) and oracle.gcd(*numbers) == 1
            and oracle.factor_of(top, bottom) == [1])


def widths_of(plan):
    return [(index, widths) for index, _, widths in ways(plan)]


class WayChecks(Checks):
    def check_ways(self, plan):
        found = ways(plan)
        tanks, steps = plan.tanks, plan.steps
        indexes = [index for index, _, _ in found]
        self.assertEqual(indexes, sorted([k for k in indexes if k is not None]) + ([None] if None in indexes else []))
        ends = ends_of(*[widths for _, _, widths in found])
        for width in WIDTHS + [number for end in ends for number in beside(end)]:
            expected = expected_run(tanks, steps, width)
            self.assertEqual(run(plan, told(width)), expected)
            self.assertEqual(way_at(found, told(width)), expected)
            self.assertEqual([has(widths, told(width)) for _, _, widths in found],
                             [index == expected[0] for index in indexes])
        for end in ends:
            self.check_end(plan, found, end)
        for index, forms, widths in found:
            self.assertTrue(widths)
            self.assertTrue(is_told_well(widths))
            self.assertEqual(len(forms), len(tanks))
            self.assertTrue(all(is_form(form) for form in forms), forms)
        self.check_new(found, [])
        self.assertIs(judge_ways(plan, found), True)
        self.assertEqual(ways(plan=plan), found)
        return found

    def check_end(self, plan, found, end):
        number = number_at(end)
        index, levels = done(plan, number)
        forms = [forms for at, forms, widths in found if has(widths, end)]
        self.assertEqual([at for at, _, widths in found if has(widths, end)], [index])
        for level, (top, bottom) in zip(levels, forms[0]):
            self.assertEqual(sign_of(level - height(top, number) / height(bottom, number)), 0)
        if end[0] != "root":
            self.assertEqual(way_at(found, end), expected_run(plan.tanks, plan.steps, number))


class Ways(WayChecks):
    def test_told_ways(self):
        self.assertEqual(self.check_ways(CHAIN), [(None, [([6], [1, 1]), ([0, 6], [1, 2, 1]), ([0, 6], [1, 2, 1])],
                                                   [ALL])])
        self.assertEqual(self.check_ways(HALT), [
            (0, [([2], [1]), ([6], [0, 1])], [((3, 1), False, None, False)]),
            (None, [([5], [2, 1]), ([10], [2, 1])], [((0, 1), False, (3, 1), True)])])

    def test_no_steps_and_no_water(self):
        self.assertEqual(self.check_ways(Script([(None, 0)], [])), [(None, [([], [1])], [ALL])])
        self.assertEqual(self.check_ways(Script([(None, 6)], [("scoop", 0, (1, 3))])), [(None, [([4], [0, 1])], [ALL])])
        self.assertEqual(self.check_ways(Script([(4, 6), (None, 0), (2, 0)], [("open", [1, 2])])),
                         [(None, [([3], [2]), ([], [1]), ([], [1])], [ALL])])

    def test_lowest_terms(self):
        tanks = [(2, 4), (None, 6), (4, 8)]
        self.assertEqual(self.check_ways(Script(tanks, [("open", [0, 2])])),
                         [(None, [([2], [1]), ([6], [0, 1]), ([2], [1])], [ALL])])
        # With tank 1 at the level of tank 0 its form is the number 2.
        self.assertEqual(self.check_ways(Script([(2, 4), (None, 0)], [("open", [0, 1]), ("move", 1, 0, (1, 1))])),
                         [(None, [([2], [1]), ([], [1])], [ALL])])
        found = self.check_ways(Script([(2, 5), (None, 3)], [("open", [0, 1]), ("scoop", 1, (1, 3)), ("pour", 0, 1)]))
        self.assertEqual(found[0][1], [([18, 1], [4, 2]), ([16], [6, 3])])

    def test_an_unless_ends_it_everywhere_or_nowhere(self):
        everywhere = Script([(1, 6), (None, 0)], [("unless", 0, 1), ("open", [0, 1]), ("unless", 1, 0)])
        self.assertEqual(self.check_ways(everywhere), [(0, [([6], [1]), ([], [1])], [ALL])])
        nowhere = Script([(1, 6), (None, 0)], [("unless", 1, 0), ("open", [0, 1]), ("unless", 1, 0)])
        self.assertEqual(widths_of(nowhere), [(None, [ALL])])
        self.check_ways(nowhere)
        late = Script([(1, 6), (None, 0)], [("unless", 1, 0), ("open", [0, 1]), ("pour", 1, 1), ("unless", 1, 0)])
        self.assertEqual(widths_of(late), [(3, [ALL])])
        self.check_ways(late)

    def test_it_goes_on_at_a_single_fraction(self):
        found = self.check_ways(EVEN)
        self.assertEqual(found, [
            (0, [([2], [1]), ([4], [0, 1])], [((2, 1), False, None, False)]),
            (1, [([2], [1]), ([4], [0, 1])], [((0, 1), False, (2, 1), False)]),
            (None, [([6], [1, 1]), ([6], [1, 1])], [((2, 1), True, (2, 1), True)])])

    def test_it_goes_on_at_roots_alone(self):
        found = self.check_ways(NARROW)
        self.assertEqual([index for index, _, _ in found], [2, 3, None])
        self.assertTrue(same(found[2][2], POINTS))
        self.assertEqual(len(found[2][2]), 2)
        self.assertTrue(same(found[0][2], [(LOW, False, HIGH, False)]))
        self.assertTrue(same(found[1][2], [((0, 1), False, LOW, False), (HIGH, False, None, False)]))
        # At a number with the square root of 3, exactly.
        for place, number in [(LOW, Quad(2, -1, 3)), (HIGH, Quad(2, 1, 3))]:
            index, levels = done(NARROW, number)
            self.assertEqual([index, (levels[2] - 2).sign()], [None, 0])
            self.assertEqual([compare(number.place(), place), has(found[2][2], number.place())], [0, True])
            for level, (top, bottom) in zip(levels, found[2][1]):
                self.assertEqual((level - height(top, number) / height(bottom, number)).sign(), 0)

    def test_an_unless_behind_roots_alone(self):
        steps = NARROW.steps + [("unless", 0, 1), ("pour", 0, 1)]
        found = self.check_ways(Script(NARROW.tanks, steps))
        # Tank 0 stands at 6 / (1 + w), tank 1 at 6 * w / (1 + w) ** 2, which is less.
        self.assertEqual([index for index, _, _ in found], [2, 3, 5])
        self.assertTrue(same(found[2][2], POINTS))
        steps = NARROW.steps + [("pour", 3, 1), ("unless", 0, 3)]
        found = self.check_ways(Script(NARROW.tanks, steps))
        # 6 / (1 + w) is above 2 at the lesser one of the roots.
        self.assertEqual([index for index, _, _ in found], [2, 3, 6, None])
        self.assertTrue(same(found[2][2], POINTS[:1]) and same(found[3][2], POINTS[1:]))

    def test_random_scripts(self):
        source = random.Random(61)
        for _ in range(300):
            words = some_words(source)
            self.check_ways(some_script(source, words, source.randint(2, 4), source.choice([2, 4, 12])))

    def test_random_scripts_of_several_ways(self):
        for plan in lively_scripts(random.Random(62), 150, 30):
            self.assertGreater(len(self.check_ways(plan)), 1)

    def test_nothing_is_kept(self):
        for plan in (CHAIN, HALT, NARROW, EVEN):
            self.check_nothing_kept(ways, plan)


class WayAt(Checks):
    def test_lists_of_no_script(self):
        forms = [([2, 4], [6, 0, 2]), ([], [-3]), ([-1], [0, -5]), ([3, -3], [-1, 0, -1])]
        listed = [(7, [([1], [1])], []), (None, [([9], [3])], [((5, 1), True, (6, 1), True)]),
                  (3, forms, [((2, 1), True, (2, 1), True), ((0, 1), False, (1, 1), True)]),
                  (3, [([0, 0, 1], [2])], [((3, 1), True, (4, 1), False), ((9, 1), False, None, False)])]
        for width, expected in [
                ((1, 1), (3, [(3, 4), (0, 1), (1, 5), (0, 1)])), ((1, 2), (3, [(8, 13), (0, 1), (2, 5), (-6, 5)])),
                ((2, 1), (3, [(5, 7), (0, 1), (1, 10), (3, 5)])), ((11, 2), (None, [(3, 1)])), ((3, 1), (3, [(9, 2)])),
                ((10, 1), (3, [(50, 1)]))]:
            with self.subTest(width=width):
                self.assertEqual(way_at(listed, width), expected)
                self.assertEqual(way_at(width=width, told=listed), expected)
        for width in [(3, 2), (5, 2), (4, 1), (9, 1), (13, 2), (999999, 500000), (500001, 500000)]:
            self.check_error(InvalidRange, width, way_at, listed, width)
        self.check_error(InvalidRange, (1, 1), way_at, [], (1, 1))
        self.check_nothing_kept(way_at, listed, (2, 1))

    def test_forms_of_any_kind(self):
        source = random.Random(63)
        spots = [(source.randint(1, 10 ** 15), source.randint(1, 10 ** 15)) for _ in range(40)]
        widths = [told(Fraction(*spot)) for spot in spots] + [(1, 1), (1, 10 ** 15)]
        for width in widths:
            forms = []
            for _ in range(4):
                top = oracle.stripped(source.randint(-10 ** 30, 10 ** 30) for _ in range(source.randint(0, 16)))
                side = source.choice([1, -1])
                bottom = [side * source.randint(0, 10 ** 30) for _ in range(source.randint(0, 15))] + [side]
                forms.append((top, bottom))
            expected = [told(Fraction(height(top, read(width))) / height(bottom, read(width)))
                        for top, bottom in forms]
            self.assertEqual(way_at([(None, forms, [ALL])], width), (None, expected))

    def test_wrong_widths(self):
        for bad in NO_WIDTHS:
            with self.subTest(bad=bad):
                self.check_error(InvalidFraction, bad, way_at, [], bad)
                self.check_error(InvalidFraction, bad, way_at, width=bad, told=ways(CHAIN))


def cut_at(widths, place):
    """The ranges with the one that has a place, at neither end, cut there."""
    found = []
    for low, low_in, high, high_in in widths:
        if has([(low, False, high, False)] if low != high else [], place):
            found += [(low, low_in, place, False), (place, True, high, high_in)]
        else:
            found.append((low, low_in, high, high_in))
    return found


class Judge(Checks):
    def check_judged(self, expected, plan, listed):
        self.assertIs(judge_ways(plan, listed), expected)
        self.assertIs(judge_ways(told=listed, plan=plan), expected)

    def test_right_changes(self):
        source = random.Random(64)
        plans = [CHAIN, HALT, NARROW, EVEN] + [some_script(source, some_words(source), 3, 6) for _ in range(60)]
        for plan in plans:
            listed = ways(plan)
            self.check_judged(True, plan, listed[::-1])
            self.check_judged(True, plan, [(index, forms, cut_at(widths, (2, 1))[::-1])
                                           for index, forms, widths in listed])
            parts = [(index, forms, [stretch]) for index, forms, widths in listed for stretch in cut_at(widths, (3, 1))]
            self.check_judged(True, plan, source.sample(parts, len(parts)))
            factors = [[2], [-3], [1, 0, 1], [-1, -2], [5, -1, 1]]
            grown = []
            for index, forms, widths in listed:
                chosen = [source.choice(factors) for _ in forms]
                grown.append((index, [(product(top, by), product(bottom, by)) for by, (top, bottom) in
                                      zip(chosen, forms)], widths))
            self.check_judged(True, plan, grown)
            many = len(plan.tanks)
            self.check_judged(True, plan, [(99, [([1], [1])] * many, [])] + listed + [(None, [([5], [1])] * many, [])])

    def test_wrong_changes(self):
        source = random.Random(65)
        plans = [CHAIN, HALT, NARROW, EVEN] + [some_script(source, some_words(source), 3, 6) for _ in range(60)]
        for plan in plans:
            listed = ways(plan)
            k = source.randrange(len(listed))
            index, forms, widths = listed[k]
            others = listed[:k] + listed[k + 1:]
            self.check_judged(False, plan, others)
            self.check_judged(False, plan, listed + [listed[k]])
            self.check_judged(False, plan, listed + [(index, forms, [widths[0]])])
            for wrong in [9, 0 if index is None else None]:
                self.check_judged(False, plan, others + [(wrong, forms, widths)])
            self.check_judged(False, plan, others + [(index, forms[:-1], widths)])
            self.check_judged(False, plan, others + [(index, forms + [forms[0]], widths)])
            self.check_judged(False, plan, others + [(index, [], widths)])
            j = source.randrange(len(forms))
            top, bottom = forms[j]
            for wrong in [(product(top, [2]) if top else [1], bottom), (product(top, [-1]) if top else [0, 1], bottom),
                          (product(top, [0, 1]) if top else [1], bottom), (top + [1], bottom)]:
                self.check_judged(False, plan, others + [(index, forms[:j] + [wrong] + forms[j + 1:], widths)])

    def test_lists_of_forms_that_are_not_as_long_as_the_tanks(self):
        listed = ways(HALT)
        for forms in ([], [([1], [1])], [([1], [1])] * 3):
            self.check_judged(False, HALT, listed + [(None, forms, [])])

    def test_a_place_left_out_or_told_twice(self):
        (index, forms, _), = ways(CHAIN)
        for widths, expected in [
                ([ALL], True), ([], False), ([((0, 1), False, (1, 1), False), ((1, 1), False, None, False)], False),
                ([((0, 1), False, (1, 1), True), ((1, 1), True, None, False)], False),
                ([((1, 1), True, None, False), ((0, 1), False, (1, 1), False)], True),
                ([((0, 1), False, (1, 1), False), ((1, 1), True, (1, 1), True), ((1, 1), False, None, False)], True),
                ([ALL, ((1, 1), True, (1, 1), True)], False), ([ALL, ALL], False),
                ([((0, 1), False, LOW, False), (LOW, False, None, False)], False),
                ([((0, 1), False, LOW, True), (root([1, -4, 1], 0, Fraction(1, 2)), True, None, False)], False),
                ([((0, 1), False, LOW, True), (root(product([1, -4, 1], [-3, 1]), 0, 1), False, None, False)], True),
                ([((0, 1), False, (2, 1), False), ((1, 1), False, None, False)], False),
                ([((0, 1), False, (1, 1), False), ((2, 1), False, None, False), ((1, 1), True, (2, 1), False)], False),
                ([((0, 1), False, (10 ** 15, 1), True)], False), ([((1, 10 ** 15), False, None, False)], False)]:
            with self.subTest(widths=widths):
                self.check_judged(expected, CHAIN, [(index, forms, widths)])
                self.check_judged(expected, CHAIN, [(index, forms, [stretch]) for stretch in widths])

    def test_thirty_ranges(self):
        (index, forms, _), = ways(CHAIN)
        cuts = [(k, 3) for k in range(1, 45) if k % 3][:29]
        ends = [(0, 1)] + cuts + [None]
        widths = [(low, low != (0, 1), high, False) for low, high in zip(ends, ends[1:])]
        self.assertEqual(len(widths), 30)
        self.check_judged(True, CHAIN, [(index, forms, widths[k::6]) for k in range(6)])
        widths[17] = (widths[17][0], False) + widths[17][2:]
        self.check_judged(False, CHAIN, [(index, forms, widths[k::6]) for k in range(6)])

    def test_another_form_at_a_single_place(self):
        (index, forms, _), = ways(CHAIN)
        around = [((0, 1), False, (1, 1), False), ((1, 1), False, None, False)]
        point = [((1, 1), True, (1, 1), True)]
        # At 1 the levels are 3, 3 / 2, 3 / 2.
        for others, expected in [([([3], [1]), ([0, 0, 3], [2]), ([6, -3], [1, 1])], True),
                                 ([([3], [1]), ([0, 0, 3], [2]), ([6, -4], [1, 1])], False),
                                 ([([-3], [-1]), ([3], [2]), ([3], [1])], False)]:
            self.check_judged(expected, CHAIN, [(index, forms, around), (index, others, point)])
            self.check_judged(False, CHAIN, [(index, others, around), (index, forms, point)])
            self.check_judged(False, CHAIN, [(0, forms, point), (index, forms, around)])

    def test_another_form_at_a_root(self):
        listed = ways(NARROW)
        index, forms, widths = listed[2]
        # Any form plus one that is 0 at both roots, or at one of them alone, is as right there, or is not.
        shifted = [(oracle.stripped(a + b for a, b in zip(top + [0] * 9, product(bottom, [1, -4, 1]) + [0] * 9)),
                    bottom) for top, bottom in forms]
        self.check_judged(True, NARROW, listed[:2] + [(index, shifted, widths)])
        self.check_judged(True, NARROW, listed[:2] + [(index, forms[:2] + [([2], [1])] + forms[3:],
                                                       widths)])
        self.check_judged(False, NARROW, listed[:2] + [(index, forms[:2] + [([4, -1], [1])] + forms[3:], widths)])
        self.check_judged(False, NARROW, [(2, shifted, listed[0][2])] + listed[1:])
        self.check_judged(True, NARROW, listed[:2] + [(index, shifted, widths[1:]), (index, forms, widths[:1])])

    def test_forms_that_are_wrong_at_one_place_alone(self):
        # EVEN goes on at 2 alone.
        listed = ways(EVEN)
        for level, expected in [((2, 1), True), ((3, 1), False)]:
            form = ([level[0]], [level[1]])
            self.check_judged(expected, EVEN, listed[:2] + [(None, [form, form], listed[2][2])])
        self.check_judged(False, EVEN, [(0, listed[0][1], [((2, 1), True, None, False)]), listed[1]])

    def test_great_forms(self):
        listed = ways(NARROW)
        source = random.Random(66)
        factor = [source.randint(1, 10 ** 28) for _ in range(10)] + [1]
        grown = [(index, [(product(top, factor), product(bottom, factor)) for top, bottom in forms], widths)
                 for index, forms, widths in listed]
        self.check_judged(True, NARROW, grown)
        grown[2][1][3][0][0] += 1
        self.check_judged(False, NARROW, grown)

    def test_nothing_is_changed(self):
        self.check_nothing_kept(judge_ways, NARROW, ways(NARROW))


class Bounds(WayChecks):
    def test_scripts_within_the_bounds(self):
        source = random.Random(67)
        most = 0
        for _ in range(200):
            plan = some_script(source, ["open"] * 4 + ["unless"] * 2, 4, 12)
            most = max(most, len(self.check_ways(plan)))
        self.assertEqual(most, 3)

    def test_somewhat_beyond_the_bounds(self):
        source = random.Random(68)
        for _ in range(30):
            self.check_ways(some_script(source, ["open"] * 6 + ["unless"] * 3 + ["pour", "move"], 5, 20))


if __name__ == "__main__":
    unittest.main()
