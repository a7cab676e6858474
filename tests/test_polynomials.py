import random
import unittest

import oracle
from checking import Checks
from valvelevels.errors import InvalidFraction, InvalidPolynomial
from valvelevels.polynomials import common, plain, plus, rest, times, trimmed, value

NO_POLYNOMIALS = [[0], [1, 0], [0, 0], [1, 2, 0, 0], [True], [1, False], [1, None], [None], ["1"], [(1, 1)], [[1]],
                  [1.5], (1, 2), None, 3, "12"]
NO_FRACTIONS = [(2, 4), (0, 2), (0, 0), (1, 0), (1, -1), (-2, 4), (3, 3), (1,), (1, 1, 1), (), [1, 2], 1, None,
                (True, 1), (1, True), (1, None), ("1", 1), (1.0, 1)]
FRACTIONS = [(0, 1), (1, 1), (-1, 1), (1, 2), (-3, 4), (7, 3), (-5, 2), (10, 1)]


def some(source, longest=6, most=9):
    return trimmed([source.randint(-most, most) for _ in range(source.randint(0, longest))])


def samples(seed, many=300, longest=6, most=9):
    source = random.Random(seed)
    return [(some(source, longest, most), some(source, longest, most)) for _ in range(many)]


class Trimmed(unittest.TestCase):
    def test_zeros_at_the_end_alone_go(self):
        for numbers, expected in [([], []), ([0], []), ([0, 0, 0], []), ([0, 2, 0], [0, 2]),
            ([1, 0, 0, -2], [1, 0, 0, -2]),
                                  ([-1, 0], [-1]), ([0, 0, 5, 0, 0], [0, 0, 5])]:
            self.assertEqual(trimmed(numbers), expected)
            self.assertEqual(trimmed(numbers=numbers), expected)

    def test_the_list_is_new(self):
        for numbers in [[], [1], [1, 0]]:
            before = list(numbers)
            found = trimmed(numbers)
            found.append(7)
            self.assertEqual(numbers, before)


class Sums(unittest.TestCase):
    def test_told_sums_and_products(self):
        for one, other, total, product in [
                ([], [], [], []), ([], [3], [3], []), ([3], [], [3], []), ([1, 2], [0, -2], [1], [0, -2, -4]),
                ([1, 2], [-1, -2], [], [-1, -4, -4]), ([1], [-1], [], [-1]), ([-2], [0, 0, 3], [-2, 0, 3], [0, 0, -6]),
                ([1, 1], [-1, 1], [0, 2], [-1, 0, 1]), ([5, 0, 1], [0, 7, -1], [5, 7], [0, 35, -5, 7, -1])]:
            with self.subTest(one=one, other=other):
                self.assertEqual(plus(one, other), total)
                self.assertEqual(plus(other=one, one=other), total)
                self.assertEqual(times(one, other), product)
                self.assertEqual(times(other=one, one=other), product)

    def test_sums_and_products_are_right_at_numbers(self):
        for one, other in samples(1):
            total, product = plus(one, other), times(one, other)
            for numbers in (total, product):
                self.assertNotEqual(numbers[-1:], [0])
            for number in map(oracle.read, FRACTIONS):
                a, b = oracle.height(one, number), oracle.height(other, number)
                self.assertEqual(oracle.height(total, number), a + b)
                self.assertEqual(oracle.height(product, number), a * b)


class Values(unittest.TestCase):
    def test_told_values(self):
        for one, spot, expected in [([], (3, 7), (0, 1)), ([5], (-3, 7), (5, 1)), ([1, -4, 1], (1, 2), (-3, 4)),
                                    ([0, 2], (1, 2), (1, 1)), ([-1, 2], (1, 2), (0, 1)),
                                    ([1, 0, 0, 8], (-1, 2), (0, 1)),
                                    ([2, 3], (0, 1), (2, 1)), ([0, 0, 6], (1, 3), (2, 3)), ([0, -6], (1, 4), (-3, 2))]:
            with self.subTest(one=one, spot=spot):
                self.assertEqual(value(one, spot), expected)
                self.assertEqual(value(spot=spot, one=one), expected)

    def test_values_are_fractions_in_lowest_terms(self):
        for one, _ in samples(2):
            for spot in FRACTIONS:
                found = value(one, spot)
                self.assertIsInstance(found, tuple)
                self.assertEqual(found, oracle.told(oracle.height(one, oracle.read(spot)) + oracle.Fraction(0)))


class Rests(unittest.TestCase):
    def test_told_rests(self):
        for one, other, expected in [
                ([1, 0, 1], [0, 2], [1]), ([-1, 0, 1], [1, 1], []), ([], [3], []), ([7, 2], [3], []), ([], [1, 1], []),
                ([6], [0, 1], [1]), ([-6], [0, 1], [-1]), ([4, -6], [1, 1, 1], [2, -3]), ([-4, 6], [1, 1, -1], [-2, 3]),
                ([0, 0, 1], [-1, 2], [1]), ([0, 0, 1], [1, -2], [1]), ([0, 0, 0, -1], [1, -2], [-1]),
                ([0, 0, 0, 1], [1, 0, -2], [0, 1]), ([0, 0, 0, 1], [1, 0, 2], [0, -1]), ([2, 4], [1, 2], []),
                ([-2, -4], [1, 2], []), ([3, 4], [1, 2], [1]), ([1, 4], [1, 2], [-1]), ([1, -4, 1], [-4, 2], [-1])]:
            with self.subTest(one=one, other=other):
                self.assertEqual(rest(one, other), expected)
                self.assertEqual(rest(other=other, one=one), expected)

    def test_rests_as_by_division(self):
        for one, other in samples(3, 500) + samples(4, 100, 8, 10 ** 6):
            if other:
                self.assertEqual(rest(one, other), oracle.rest_of(one, other), (one, other))


class Factors(unittest.TestCase):
    def test_told_factors(self):
        for one, other, expected in [
                ([], [], []), ([], [2, 4], [1, 2]), ([-2, -4], [], [1, 2]), ([], [-3], [1]), ([6], [4], [1]),
                ([-6], [4, 2], [1]), ([-2, 0, 2], [3, 3], [1, 1]), ([2, 4], [-1, -2], [1, 2]), ([1, 1], [1, 2], [1]),
                ([0, 1], [0, 0, -5], [0, 1]), ([1, 2, 1], [-1, 0, 1], [1, 1]), ([1, 2, 1], [2, 4, 2], [1, 2, 1])]:
            with self.subTest(one=one, other=other):
                self.assertEqual(common(one, other), expected)
                self.assertEqual(common(other=one, one=other), expected)

    def test_factors_as_by_division(self):
        source = random.Random(5)
        for one, other in samples(6, 300, 4):
            shared = some(source, 3)
            one, other = oracle.product(one, shared), oracle.product(other, shared)
            found = common(one, other)
            self.assertEqual(found, oracle.factor_of(one, other), (one, other))


class Plain(unittest.TestCase):
    def test_told_plain_polynomials(self):
        for one, expected in [([1], [1]), ([-6], [1]), ([1, 2, 1], [1, 1]), ([0, 0, 2], [0, 1]),
            ([0, 0, 0, -3], [0, 1]),
                              ([2, -8, 2], [1, -4, 1]), ([-1, 4, -1], [1, -4, 1]), ([4, 2], [2, 1]),
                              ([1, -1, -1, 1], [-1, 0, 1]), ([4, 0, -4, 0, 1], [-2, 0, 1]), ([3, -6], [-1, 2])]:
            with self.subTest(one=one):
                self.assertEqual(plain(one), expected)
                self.assertEqual(plain(one=one), expected)

    def test_plain_polynomials_as_by_division(self):
        source = random.Random(7)
        for one, other in samples(8, 300, 4):
            one = oracle.product(*[one] * source.randint(1, 2), *[other] * source.randint(0, 2))
            if one:
                found = plain(one)
                self.assertEqual(found, oracle.plain_of(one), one)
                self.assertEqual(common(found, oracle.slope_of(found)), [1])
                self.assertEqual(plain(found), found)


class Errors(Checks):
    def test_what_is_no_polynomial(self):
        for bad in NO_POLYNOMIALS:
            with self.subTest(bad=bad):
                for call in (plus, times, rest, common):
                    self.check_error(InvalidPolynomial, bad, call, bad, [1, 1])
                    self.check_error(InvalidPolynomial, bad, call, [1, 1], bad)
                    self.check_error(InvalidPolynomial, bad, call, [], bad)
                    self.check_error(InvalidPolynomial, bad, call, one=[1], other=bad)
                    self.check_error(InvalidPolynomial, bad, call, other=[2, 0], one=bad)
                self.check_error(InvalidPolynomial, bad, value, bad, (1, 1))
                self.check_error(InvalidPolynomial, bad, plain, bad)
                self.check_error(InvalidPolynomial, bad, plain, one=bad)

    def test_the_first_one_is_told(self):
        for call in (plus, times, rest, common):
            self.check_error(InvalidPolynomial, [1, 0], call, [1, 0], [2, 0])
            self.check_error(InvalidPolynomial, [1, 0], call, [1, 0], [])

    def test_zero(self):
        self.check_error(InvalidPolynomial, [], rest, [1, 1], [])
        self.check_error(InvalidPolynomial, [], rest, [], [])
        self.check_error(InvalidPolynomial, [], rest, one=[5], other=[])
        self.check_error(InvalidPolynomial, [], plain, [])
        self.check_error(InvalidPolynomial, [], plain, one=[])
        self.check_error(InvalidPolynomial, [0], plain, [0])

    def test_what_is_no_fraction(self):
        for bad in NO_FRACTIONS:
            with self.subTest(bad=bad):
                self.check_error(InvalidFraction, bad, value, [1, 1], bad)
                self.check_error(InvalidFraction, bad, value, [], bad)
                self.check_error(InvalidFraction, bad, value, one=[1], spot=bad)
                self.check_error(InvalidPolynomial, [1, 0], value, [1, 0], bad)


class NewLists(Checks):
    CALLS = [(trimmed, [[1, 2]]), (trimmed, [[]]), (plus, [[1, 2], []]), (plus, [[], [1, 2]]), (plus, [[], []]),
             (times, [[1], [2, 3]]), (times, [[], [1]]), (times, [[1], [1]]), (rest, [[1], [1, 1]]), (rest, [[], [1]]),
             (rest, [[1, 2], [1, 1, 1]]), (common, [[1, 1], []]), (common, [[], [1, 1]]), (common, [[], []]),
             (common, [[1, 1], [1, 1]]), (plain, [[1, 1]]), (plain, [[1]]), (value, [[1, 2], (1, 2)])]

    def test_nothing_is_changed_or_kept(self):
        for call, arguments in self.CALLS:
            with self.subTest(call.__name__, arguments=arguments):
                self.check_nothing_kept(call, *arguments)

    def test_one_list_may_be_passed_twice(self):
        one = [2, 4]
        self.assertEqual([plus(one, one), times(one, one), rest(one, one), common(one, one), one],
                         [[4, 8], [4, 16, 16], [], [1, 2], [2, 4]])


if __name__ == "__main__":
    unittest.main()
