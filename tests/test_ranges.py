"""Ranges and sets of places."""

import copy
import itertools
import random
import unittest
from fractions import Fraction

import oracle
from checking import Checks
from oracle import near, product, read, root
from valvelevels.errors import InvalidPlace, InvalidRange
from valvelevels.places import compare, has, same, simplest, united, without
from test_places import CUBE_2, NO_PLACES, ROOT_2, ROOT_3

ALL = ((0, 1), False, None, False)
LOW, HIGH = root([1, -4, 1], 0, 1), root([1, -4, 1], 3, 4)

# Numbers, ascending, each told in several ways.
TOLD = [
    [(1, 3)],
    [root([-1, 0, 2], 0, 1), root([1, 0, -2], Fraction(7, 10), Fraction(3, 4)),
    root(product([-1, 0, 2], [-3, 0, 1]), 0, Fraction(6, 5))],
    [(1, 1)],
    [ROOT_2, root(product([-2, 0, 1], [-1, 1]), Fraction(5, 4), 2), root([-4, 0, 0, 0, 1], 0, 10 ** 15)],
    [root([-200000001, 0, 10 ** 8], 1, 2), root([-200000001, 0, 10 ** 8], Fraction(14142135, 10 ** 7), Fraction(3, 2))],
    [(3, 2)]]

NO_RANGES = [
    None, 1, (), (1, 2), [(0, 1), False, None, False], ((0, 1), False, None), ((0, 1), False, None, False, False),
    # what may not be in it, and what is no word for that
    ((0, 1), True, None, False), ((0, 1), False, None, True), ((0, 1), True, (1, 1), True), ((1, 1), True, None, True),
    ((0, 1), 0, None, False), ((0, 1), False, None, 0), ((0, 1), None, (1, 1), True), ((1, 1), 1, (2, 1), True),
    ((1, 1), True, (2, 1), 1), ((1, 1), "yes", (2, 1), True),
    # no place
    (None, False, None, False), (None, False, (1, 1), True), ((0, 1), False, (0, 1), False),
    ((-1, 1), False, None, False),
    ((2, 4), True, None, False), ((1, 1), True, (4, 2), False), (0, False, None, False), ((0, 2), False, None, False),
    ((False, True), False, None, False), ((1, 1), True, (0, 1), False),
    (("root", [-2, 0, 1], (2, 1), (3, 1)), True, None, False),
    ((1, 1), True, ("root", [-2, 0, 1, 0], (1, 1), (2, 1)), True),
    # no place in it
    ((1, 1), False, (1, 1), False), ((1, 1), True, (1, 1), False), ((1, 1), False, (1, 1), True),
    ((2, 1), True, (1, 1), True),
    (ROOT_2, False, ROOT_2, True), (ROOT_2, True, TOLD[3][1], False), (ROOT_3, True, ROOT_2, True),
    (ROOT_2, True, (7, 5), True),
    ((3, 2), False, ROOT_2, False), (ROOT_3, True, (1, 1), True)]


def point(place, other=None):
    return (place, True, other or place, True)


def number_of(place):
    """The row of TOLD in which a place stands; -1 for 0, None stays."""
    if place is None or place == (0, 1):
        return None if place is None else -1
    found = [k for k, row in enumerate(TOLD) if oracle.is_near(near(row[0]), near(place))]
    assert len(found) == 1, place
    return found[0]


def in_numbers(told):
    return [(number_of(low), low_in, number_of(high), high_in) for low, low_in, high, high_in in told]


def all_ranges(spots):
    """All ranges whose ends are among some rows of TOLD, in numbers."""
    lows = [(-1, False)] + [(k, inside) for k in spots for inside in (False, True)]
    highs = [(k, inside) for k in spots for inside in (False, True)] + [(None, False)]
    return [(low, low_in, high, high_in) for low, low_in in lows for high, high_in in highs
            if high is None or low < high or (low == high and low_in and high_in)]


def in_places(source, numbers):
    """Ranges, told in any way, of ranges in numbers."""
    return [((0, 1) if low == -1 else source.choice(TOLD[low]), low_in,
        None if high is None else source.choice(TOLD[high]), high_in)
            for low, low_in, high, high_in in numbers]


def cells(numbers):
    """The cells, 2 * k + 1 for what stands on row k of TOLD and 2 * k for what lies ahead of it."""
    found = set()
    for low, low_in, high, high_in in numbers:
        first = 2 * low + (1 if low_in else 2)
        last = 2 * len(TOLD) if high is None else 2 * high + (1 if high_in else 0)
        found |= set(range(first, last + 1))
    return found


def ranges_of(found):
    """The fewest ranges, in numbers, with some cells."""
    expected = []
    for first in sorted(found):
        if first - 1 not in found:
            last = first
            while last + 1 in found:
                last += 1
            high = None if last == 2 * len(TOLD) else last // 2
            expected.append(((first - 1) // 2, first % 2 == 1, high, last % 2 == 1))
    return expected


class Simplest(unittest.TestCase):
    def test_told_ranges(self):
        for stretch, expected in [
                (ALL, (1, 1)), (((0, 1), False, (1, 1), False), (1, 2)), (((0, 1), False, (1, 1), True), (1, 1)),
                (((0, 1), False, (1, 2), False), (1, 3)), (((1, 1), False, None, False), (2, 1)),
                (((1, 1), True, None, False), (1, 1)),
                (((1, 1), False, (2, 1), False), (3, 2)), (((1, 2), False, (3, 1), False), (1, 1)),
                (((5, 2), False, (9, 1), False), (3, 1)),
                (((5, 2), True, (3, 1), False), (5, 2)), (((3, 2), False, (5, 3), False), (8, 5)),
                (((1, 3), False, (1, 2), False), (2, 5)),
                (((1, 3), True, (1, 2), True), (1, 2)), (((2, 5), True, (3, 7), True), (2, 5)),
                (((2, 7), True, (2, 5), True), (1, 3)),
                (((3, 1), True, (9, 1), True), (3, 1)), (((3, 1), False, (9, 1), True), (4, 1)),
                (((5, 7), True, (5, 7), True), (5, 7)),
                (((999999, 1000000), False, (1, 1), False), (1000000, 1000001)),
                (((10 ** 15, 1), False, None, False), (10 ** 15 + 1, 1)),
                (((0, 1), False, (1, 10 ** 15), False), (1, 10 ** 15 + 1)),
                (((0, 1), False, (1, 10 ** 15), True), (1, 10 ** 15)),
                ((LOW, False, HIGH, False), (1, 1)), ((HIGH, True, None, False), (4, 1)),
                (((0, 1), False, LOW, True), (1, 4)),
                ((ROOT_2, False, ROOT_3, False), (3, 2)), ((CUBE_2, True, ROOT_2, True), (4, 3)),
                ((ROOT_2, True, (3, 2), False), (10, 7)),
                ((TOLD[3][1], False, TOLD[4][0], True), (19601, 13860))]:
            with self.subTest(stretch=stretch):
                self.assertEqual(simplest(stretch), expected)
                self.assertEqual(simplest(stretch=stretch), expected)

    def test_a_root_where_no_fraction_will_do(self):
        for place, other in itertools.product(TOLD[3], TOLD[3]):
            found = simplest((place, True, other, True))
            self.assertEqual(found[0], "root")
            self.assertEqual(compare(found, ROOT_2), 0)
            self.assertEqual(len(found), 4)

    def test_fractions_tried_out(self):
        spots = sorted({Fraction(above, below) for above in range(0, 12) for below in range(1, 9)})
        source = random.Random(21)
        for _ in range(1500):
            low, high = sorted(source.sample(spots, 2))
            low_in, high_in = low > 0 and source.random() < 0.5, source.random() < 0.5
            stretch = (oracle.told(low), low_in, oracle.told(high), high_in)
            self.assertEqual(simplest(stretch), oracle.simplest_fraction(low, low_in, high, high_in), stretch)
            stretch = (oracle.told(low), low_in, None, False)
            self.assertEqual(simplest(stretch), oracle.simplest_fraction(low, low_in, None, False), stretch)

    def test_roots_as_ends_tried_out(self):
        spots = [place for row in TOLD for place in row] + [LOW, HIGH, ROOT_3, CUBE_2, root([-1, -14, 1], 14, 15),
            (7, 5), (5, 1)]
        for one, other in itertools.product(spots, spots):
            if compare(one, other) < 0:
                for low_in, high_in in itertools.product((False, True), (False, True)):
                    low, high = [read(place) if place[0] != "root" else Fraction(near(place)) for place in (one, other)]
                    within = (low_in and one[0] != "root", high_in and other[0] != "root")
                    self.assertEqual(simplest((one, low_in, other, high_in)),
                        oracle.simplest_fraction(low, within[0], high, within[1]))

    def test_very_narrow_ranges(self):
        # Of two fractions with a determinant of 1 the sum, by parts, is the simplest one between.
        low, high = (0, 1), (1, 1)
        for turn in range(60):
            middle = (low[0] + high[0], low[1] + high[1])
            self.assertEqual(simplest((low, False, high, False)), middle)
            if low[0]:
                nearer = low if low[1] <= high[1] else high
                self.assertEqual(simplest((low, True, high, True)), nearer)
                self.assertEqual(simplest((low, True, high, False)), low if low[1] <= middle[1] else middle)
            low, high = (middle, high) if turn % 3 else (low, middle)

    def test_between_a_root_and_a_fraction_near_to_it(self):
        above, below = 1, 1
        for _ in range(19):
            ahead, behind = above + 2 * below, above + below
            near_one, side = (above, below), compare((above, below), ROOT_2)
            stretch = (near_one, False, ROOT_2, True) if side < 0 else (ROOT_2, True, near_one, False)
            # The next fraction of this row lies on the other side, the one after that on this one.
            self.assertEqual(simplest(stretch), (above + ahead, below + behind))
            stretch = (near_one, True, ROOT_2, True) if side < 0 else (ROOT_2, True, near_one, True)
            self.assertEqual(simplest(stretch), near_one)
            above, below = ahead, behind


class Has(unittest.TestCase):
    def test_told_lists(self):
        halves = [((0, 1), False, LOW, True), (LOW, True, (1, 1), False)]
        for told, place, expected in [
                ([], (1, 1), False), ([], ROOT_2, False), ([ALL], (1, 10 ** 15), True), ([ALL], (10 ** 15, 1), True),
                ([ALL], ROOT_2, True),
                (halves, LOW, True), (halves, (1, 1), False), (halves, (1, 2), True), (halves, HIGH, False),
                ([point(ROOT_2)], ROOT_2, True),
                ([point(ROOT_2)], TOLD[3][1], True), ([point(ROOT_2)], (7, 5), False), ([point((7, 5))], (7, 5), True),
                ([((1, 1), False, (2, 1), False)], (1, 1), False), ([((1, 1), False, (2, 1), False)], (2, 1), False),
                ([((1, 1), True, (2, 1), True)], (1, 1), True), ([((1, 1), True, (2, 1), True)], (2, 1), True),
                ([((3, 1), True, None, False), ((1, 1), True, (2, 1), True)], (3, 2), True),
                ([((1, 1), True, (2, 1), True), ((3, 1), True, None, False)], (5, 2), False)]:
            with self.subTest(told=told, place=place):
                self.assertIs(has(told, place), expected)
                self.assertIs(has(place=place, told=told), expected)

    def test_all_ends(self):
        source = random.Random(22)
        for numbers in all_ranges(range(len(TOLD))):
            told = in_places(source, [numbers])
            for k, row in enumerate(TOLD):
                self.assertIs(has(told, source.choice(row)), 2 * k + 1 in cells([numbers]), told)


class Sets(Checks):
    def check_pair(self, one, other, source):
        mine, yours = in_places(source, one), in_places(source, other)
        before = copy.deepcopy((mine, yours))
        both, left = united(mine + yours), without(mine, yours)
        self.assertEqual(in_numbers(both), ranges_of(cells(one) | cells(other)))
        self.assertEqual(in_numbers(left), ranges_of(cells(one) - cells(other)))
        self.assertIs(same(mine, yours), cells(one) == cells(other))
        self.assertIs(same(both, yours + mine), True)
        self.check_new(both, mine + yours)
        self.check_new(left, mine + yours)
        self.assertEqual((mine, yours), before)

    def test_told_unions(self):
        for told, expected in [
                ([], []), ([ALL], [ALL]), ([ALL, ALL], [ALL]), ([point((1, 2)), ALL], [ALL]),
                ([((0, 1), False, (1, 1), False), ((1, 1), False, None, False)],
                [((0, 1), False, (1, 1), False), ((1, 1), False, None, False)]),
                ([((1, 1), False, None, False), ((0, 1), False, (1, 1), True)], [ALL]),
                ([((0, 1), False, (1, 1), False), ((1, 1), True, None, False)], [ALL]),
                ([((0, 1), False, (1, 1), True), ((1, 1), True, None, False)], [ALL]),
                ([((1, 1), False, None, False), point((1, 1)), ((0, 1), False, (1, 1), False)], [ALL]),
                ([((2, 1), True, (4, 1), False), ((1, 1), True, (3, 1), True)], [((1, 1), True, (4, 1), False)]),
                ([((2, 1), True, (3, 1), True), ((1, 1), False, (4, 1), False)], [((1, 1), False, (4, 1), False)]),
                ([((1, 1), False, (2, 1), False), ((1, 1), True, (2, 1), False)], [((1, 1), True, (2, 1), False)]),
                ([point((3, 1)), point((1, 1)), point((2, 1)), point((1, 1))],
                [point((1, 1)), point((2, 1)), point((3, 1))]),
                ([((0, 1), False, LOW, True), (LOW, True, (1, 1), False)], [((0, 1), False, (1, 1), False)])]:
            with self.subTest(told=told):
                self.assertEqual(united(told), expected)
                self.assertEqual(united(told=told), expected)

    def test_told_differences(self):
        for one, other, expected in [
                ([], [], []), ([], [ALL], []), ([ALL], [], [ALL]), ([ALL], [ALL], []),
                ([ALL], [((1, 1), True, None, False)], [((0, 1), False, (1, 1), False)]),
                ([ALL], [((1, 1), False, None, False)], [((0, 1), False, (1, 1), True)]),
                ([ALL], [point((1, 1))], [((0, 1), False, (1, 1), False), ((1, 1), False, None, False)]),
                ([((1, 1), True, (2, 1), True)], [((1, 1), False, (2, 1), False)], [point((1, 1)), point((2, 1))]),
                ([((1, 1), False, (2, 1), True), ((2, 1), True, (3, 1), True)], [point((5, 1))],
                [((1, 1), False, (3, 1), True)]),
                ([point((1, 1))], [((1, 1), False, None, False)], [point((1, 1))]),
                ([((1, 1), True, (5, 1), True)], [((2, 1), True, (3, 1), False), ((3, 1), True, (4, 1), True)],
                 [((1, 1), True, (2, 1), False), ((4, 1), False, (5, 1), True)])]:
            with self.subTest(one=one, other=other):
                self.assertEqual(without(one, other), expected)
                self.assertEqual(without(other=other, one=one), expected)

    def test_told_comparisons(self):
        for one, other, expected in [
                ([], [], True), ([], [ALL], False), ([ALL], [], False), ([ALL], [ALL, point((1, 1))], True),
                ([point((1, 1))], [], False),
                ([((0, 1), False, (1, 1), False)], [((0, 1), False, (1, 1), True)], False),
                ([point(ROOT_2)], [point(TOLD[3][1], TOLD[3][2])], True),
                ([point(ROOT_2)], [point(ROOT_3)], False), ([point(TOLD[3][0])], [point(TOLD[4][0])], False),
                ([((0, 1), False, ROOT_2, False), (ROOT_2, False, None, False)], [ALL], False),
                ([((0, 1), False, ROOT_2, False), (TOLD[3][1], True, None, False)], [ALL], True)]:
            with self.subTest(one=one, other=other):
                self.assertIs(same(one, other), expected)
                self.assertIs(same(other=one, one=other), expected)

    def test_all_pairs_of_ranges(self):
        source = random.Random(23)
        told = all_ranges([1, 2, 3])
        for one, other in itertools.product(told, told):
            self.check_pair([one], [other], source)

    def test_random_lists(self):
        source = random.Random(24)
        told = all_ranges(range(len(TOLD)))
        narrow = [numbers for numbers in told if numbers[2] is not None and numbers[2] - numbers[0] < 2]
        for _ in range(300):
            pool = source.choice([told, narrow])
            self.check_pair(source.choices(pool, k=source.randint(0, 6)), source.choices(pool, k=source.randint(0, 6)),
                source)

    def test_one_root_stands_in_several_places(self):
        # The ranges share one polynomial; what is returned must not.
        place = root([-2, 0, 1], 1, 2)
        told = [point(place), ((0, 1), False, (1, 1), False), (place, True, place, True)]
        for found in [united(told), without(told, []), without([ALL], [point(place)])]:
            self.check_new(found, told)
        first = united(told)
        united(told)[1][0][1].append(5)
        self.assertEqual(united(told), first)


class WrongInput(Checks):
    def test_what_is_no_range(self):
        good = [((1, 1), True, (2, 1), True), (ROOT_2, False, None, False)]
        for bad in NO_RANGES:
            with self.subTest(bad=bad):
                self.check_error(InvalidRange, bad, simplest, bad)
                self.check_error(InvalidRange, bad, simplest, stretch=bad)
                self.check_error(InvalidRange, bad, has, [bad], (1, 1))
                self.check_error(InvalidRange, bad, has, good + [bad] + NO_RANGES, (1, 1))
                self.check_error(InvalidRange, bad, has, place=ROOT_2, told=[bad])
                self.check_error(InvalidRange, bad, united, [bad])
                self.check_error(InvalidRange, bad, united, told=good + [bad, None])
                for call in (without, same):
                    self.check_error(InvalidRange, bad, call, [bad], [])
                    self.check_error(InvalidRange, bad, call, good, good + [bad, None])
                    self.check_error(InvalidRange, bad, call, other=[()], one=[bad])

    def test_a_place_is_asked_ahead_of_the_ranges(self):
        for bad in NO_PLACES:
            with self.subTest(bad=bad):
                self.check_error(InvalidPlace, bad, has, [], bad)
                self.check_error(InvalidPlace, bad, has, [()], bad)
                self.check_error(InvalidPlace, bad, has, place=bad, told=[ALL])

    def test_a_place_that_is_none_makes_a_range_none(self):
        for bad in NO_PLACES:
            with self.subTest(bad=bad):
                if bad != (0, 1):
                    self.check_error(InvalidRange, (bad, False, (10 ** 15, 1), True), simplest,
                        (bad, False, (10 ** 15, 1), True))
                if bad is not None:
                    self.check_error(InvalidRange, ((0, 1), False, bad, False), united, [((0, 1), False, bad, False)])

    def test_one_list_that_stands_in_a_range_twice(self):
        one = [-2, 0, 1]
        place = ("root", one, (1, 1), (2, 1))
        self.check_error(InvalidRange, (place, True, place, False), simplest, (place, True, place, False))
        self.check_error(InvalidRange, (place, False, place, False), same, [], [(place, False, place, False)])


class NewLists(Checks):
    CALLS = [(simplest, [point(ROOT_2)]), (simplest, [(ROOT_2, True, ROOT_3, True)]),
        (has, [[ALL, point(ROOT_2)], ROOT_2]),
             (united, [[(LOW, True, HIGH, True), point(HIGH)]]), (without, [[ALL], [(LOW, True, HIGH, True)]]),
             (same, [[ALL], [(LOW, True, HIGH, True)]]), (united, [[]]), (without, [[], []])]

    def test_nothing_is_changed_or_kept(self):
        for call, arguments in self.CALLS:
            with self.subTest(call.__name__, arguments=arguments):
                self.check_nothing_kept(call, *arguments)


if __name__ == "__main__":
    unittest.main()
