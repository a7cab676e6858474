"""Everything within the bounds of the document, and what is returned passed on whatever its size."""

import random
import unittest
from fractions import Fraction

import oracle
from oracle import near, product, read
from valvelevels.places import compare, has, number_of_roots, places, row, same, sign, simplest, turns, united, without
from valvelevels.polynomials import common, plain, plus, rest, times, trimmed, value
from test_places import row_of, turns_of

MOST, FAR = 10 ** 6, 10 ** 15
ALL = ((0, 1), False, None, False)


def great(source, many=8, most=MOST):
    numbers = [source.choice([source.randint(-most, most), most, -most, 1 - most]) for _ in range(many - 1)]
    return numbers + [source.choice([1, -1, most, -most, source.randint(1, most)])]


def far(source):
    number = Fraction(source.randint(1, FAR), source.choice([1, FAR, FAR - 1, source.randint(1, FAR)]))
    return oracle.told(number)


class GreatPolynomials(unittest.TestCase):
    def test_arithmetic(self):
        source = random.Random(31)
        for _ in range(60):
            one, other, spot = great(source), great(source, source.randint(1, 8)), far(source)
            self.assertEqual(trimmed(one + [0] * 5), one)
            self.assertEqual(plus(one, other), oracle.stripped(a + b for a, b in zip(one, other + [0] * 8)))
            self.assertEqual(times(one, other), product(one, other))
            self.assertEqual(value(one, spot), oracle.told(oracle.height(one, read(spot))))
            self.assertEqual(rest(one, other), oracle.rest_of(one, other))
            self.assertEqual(rest(other, one), oracle.rest_of(other, one))
            self.assertEqual(common(one, other), oracle.factor_of(one, other))
            self.assertEqual(plain(one), oracle.plain_of(one))

    def test_rows_and_places(self):
        source = random.Random(32)
        for _ in range(60):
            one, spot = great(source), far(source)
            told = row(one)
            self.assertEqual(told, row_of(one))
            for at in (spot, (-spot[0], spot[1]), (0, 1), None):
                self.assertEqual(turns(told, at), turns_of(told, at))
            found = places(one)
            self.assertEqual(number_of_roots(one, (0, 1), None), len(found))
            self.assertEqual(number_of_roots(one, (0, 1), spot),
                len([place for place in found if compare(place, spot) <= 0]))
            self.assertEqual(number_of_roots(one, spot, None),
                len([place for place in found if compare(place, spot) > 0]))
            for place in found:
                self.assertEqual(sign(one, place), 0)
                other = great(source)
                number = Fraction(near(place))
                self.assertEqual(sign(other, place), 1 if oracle.height(other, number) > 0 else -1)

    def test_turns_of_polynomials_of_any_size(self):
        source = random.Random(33)
        for most in (1, 10 ** 6, 10 ** 60, 10 ** 600):
            for _ in range(20):
                told = [trimmed([source.randint(-most, most) for _ in range(12)]) for _ in range(12)]
                for spot in (far(source), (-FAR, FAR - 1), (0, 1), None, (1, 1)):
                    self.assertEqual(turns(told, spot), turns_of(told, spot))

    def test_roots_that_are_near_to_each_other(self):
        # w ** 7 - 2 * (1000 * w - 1) ** 2 has two roots which are alike for more than 12 digits.
        one = [-2, 4000, -2 * MOST, 0, 0, 0, 0, 1]
        found = places(one)
        self.assertEqual(len(found), 3)
        self.assertEqual([compare(found[0], found[1]), compare(found[1], found[2])], [-1, -1])
        middle = simplest((found[0], False, found[1], False))
        self.assertEqual(middle, (1, 1000))
        self.assertEqual([number_of_roots(one, (0, 1), middle), number_of_roots(one, middle, (1, 1))], [1, 1])
        self.assertEqual(simplest((found[0], True, found[0], True))[0], "root")

    def test_roots_of_great_polynomials_with_fractions(self):
        numbers = [Fraction(999, 1000), Fraction(1000, 1001), Fraction(1001, 1000)]
        one = product(*[[-number.numerator, number.denominator] for number in numbers])
        self.assertEqual(places(one), [oracle.told(number) for number in sorted(numbers)])
        self.assertEqual(places([-FAR, FAR - 1]), [(FAR, FAR - 1)])
        self.assertEqual(places([1 - FAR, FAR]), [(FAR - 1, FAR)])
        self.assertEqual(places([0, -1, FAR]), [(1, FAR)])


class FarFractions(unittest.TestCase):
    def test_order(self):
        source = random.Random(34)
        spots = [far(source) for _ in range(40)] + [(FAR, FAR - 1), (FAR - 1, FAR), (FAR, 1), (1, FAR)]
        for one in spots:
            for other in spots:
                expected = (read(one) > read(other)) - (read(one) < read(other))
                self.assertEqual(compare(one, other), expected)

    def test_roots_between_far_fractions(self):
        # These two come as near to the square root of 2 as fractions of their size can.
        below, above = (423859315570607, 299713796309065), (1023286908188737, 723573111879672)
        self.assertTrue(read(below) ** 2 < 2 < read(above) ** 2)
        one = ("root", [-2, 0, 1], below, above)
        other = ("root", product([-2, 0, 1], [-3, 0, 1]), (1, FAR), (FAR, FAR * 2 // 3 + 1))
        self.assertEqual([compare(one, other), compare(other, one)], [0, 0])
        self.assertEqual([compare(one, below), compare(one, above), sign([-2, 0, 1], one)], [1, -1, 0])
        self.assertEqual(united([(one, True, other, True)])[0][0][0], "root")
        self.assertEqual(simplest((below, False, above, False)), (below[0] + above[0], below[1] + above[1]))
        self.assertEqual(simplest((below, True, above, True)), below)

    def test_simplest_places(self):
        source = random.Random(35)
        for _ in range(60):
            one, other = sorted([read(far(source)), read(far(source))])
            if one < other:
                above, below = simplest((oracle.told(one), False, oracle.told(other), False))
                self.assertTrue(one < Fraction(above, below) < other)
                # No fraction with a lesser `below` lies nearer to this one, on either side, than its two parents.
                for lesser in range(max(1, below - 50), below):
                    self.assertGreaterEqual(Fraction(int(one * lesser) + 1, lesser), other)
                self.assertFalse(one < Fraction(above - 1, below) < other)


class LongLists(unittest.TestCase):
    def test_thirty_ranges(self):
        source = random.Random(36)
        spots = []
        while len(spots) < 40:
            spots += places(great(source))
        spots += [far(source) for _ in range(10)]
        for _ in range(6):
            lists = []
            for _ in range(2):
                told = []
                while len(told) < 30:
                    low, high = source.choice(spots), source.choice(spots)
                    if compare(low, high) < 0:
                        told.append((low, source.random() < 0.5, high, source.random() < 0.5))
                lists.append(told)
            self.check_lists(*lists, source.sample(spots, 10))

    def check_lists(self, one, other, spots):
        both, left = united(one + other), without(one, other)
        self.assertTrue(same(both, other + one))
        self.assertTrue(same(left, without(united(one), united(other))))
        self.assertTrue(same(united(left + other), both))
        self.assertEqual(without(left, one), [])
        self.assertTrue(same(without([ALL], without([ALL], one)), one))
        for told in (both, left):
            for stretch, following in zip(told, told[1:]):
                order = compare(stretch[2], following[0])
                self.assertTrue(order < 0 or (order == 0 and not stretch[3] and not following[1]))
            ends = [one[3][0], other[3][2], one[4][2], other[4][0]]
            for place in spots + ends + [simplest(stretch) for stretch in one[:3]]:
                mine, yours = has(one, place), has(other, place)
                self.assertEqual(has(told, place), mine or yours if told is both else mine and not yours)

    def test_ranges_apart_and_in_a_row(self):
        apart = [((k, 1), False, (k + 1, 1), False) for k in range(1, 31)]
        spots = [((k, 1), True, (k, 1), True) for k in range(2, 31)]
        self.assertEqual(united(apart[::-1]), apart)
        self.assertEqual(united(spots + apart), [((1, 1), False, (31, 1), False)])
        self.assertEqual(without([((1, 1), False, (31, 1), False)], spots), apart)
        self.assertEqual(without([((1, 1), False, (31, 1), False)], apart), spots)
        self.assertEqual(united([ALL] * 30), [ALL])


class WhatIsReturned(unittest.TestCase):
    def test_it_may_be_passed_on_whatever_its_size(self):
        source = random.Random(37)
        one = [source.randint(-10 ** 30, 10 ** 30) for _ in range(16)]
        other = times(one, [source.randint(-10 ** 30, 10 ** 30) for _ in range(12)])
        self.assertEqual(plain(other), oracle.upright(other))
        told = row(other)
        self.assertEqual(turns(told, (0, 1)) - turns(told, None), number_of_roots(other, (0, 1), None))
        found = places(other)
        self.assertEqual(len(found), number_of_roots(other, (0, 1), None))
        for place in found:
            self.assertEqual(sign(other, place), 0)
        for place, following in zip(found, found[1:]):
            self.assertEqual(compare(place, following), -1)
            between = simplest((place, False, following, False))
            self.assertEqual([compare(between, place), compare(between, following)], [1, -1])
        shared = common(other, one)
        self.assertEqual(shared, oracle.upright(one))
        self.assertEqual(without(united([(place, True, place, True) for place in found]), [ALL]), [])


if __name__ == "__main__":
    unittest.main()
