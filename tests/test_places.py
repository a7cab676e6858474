"""Rows, turns, counted roots, places, signs and the order of places."""

import random
import unittest
from decimal import Decimal

import oracle
from checking import Checks
from oracle import Surd, is_near, near, product, read, root
from valvelevels.errors import InvalidFraction, InvalidPlace, InvalidPolynomial
from valvelevels.places import compare, number_of_roots, places, row, sign, turns
from test_polynomials import NO_FRACTIONS, NO_POLYNOMIALS, some

# Numbers of all kinds, with their polynomials; no two of these have a common factor if they are not the same.
SURDS = [Surd(0), Surd(1), Surd(2), Surd(5), Surd(-1), Surd(-3), Surd(1, r=2), Surd(7, r=3), Surd(-2, r=5),
         Surd(0, 1, 2), Surd(2, 1, 3), Surd(-1, 1, 5, 2), Surd(3, 1, 2), Surd(-4, 1, 3), Surd(1, 1, 7, 6),
         Surd(0, 1, 1000003), Surd(0, 1, 2, 1000)]
NO_ROOTS = [[1, 0, 1], [1, 1, 1], [7], [-3], [2, -2, 1]]
ROOT_2 = ("root", [-2, 0, 1], (1, 1), (2, 1))
ROOT_3 = ("root", [-3, 0, 1], (1, 1), (2, 1))
CUBE_2 = ("root", [-2, 0, 0, 1], (0, 1), (2, 1))

NO_PLACES = [
    (0, 1), (-1, 2), (2, 4), (1, 0), (0, 0), (-1, -1), (True, 1), (1, True), (), (1,), (1, 2, 3), None, 1, [1, 2],
    "root",
    ("root",), ("root", [-2, 0, 1], (1, 1)), ("root", [-2, 0, 1], (1, 1), (2, 1), (3, 1)),
    ["root", [-2, 0, 1], (1, 1), (2, 1)],
    ("toor", [-2, 0, 1], (1, 1), (2, 1)), (None, [-2, 0, 1], (1, 1), (2, 1)),
    # no polynomial
    ("root", [-2, 0, 1, 0], (1, 1), (2, 1)), ("root", (-2, 0, 1), (1, 1), (2, 1)),
    ("root", [-2, False, 1], (1, 1), (2, 1)),
    ("root", [], (1, 1), (2, 1)), ("root", [3], (1, 1), (2, 1)), ("root", None, (1, 1), (2, 1)),
    # no fractions, below 0, not ascending
    ("root", [-2, 0, 1], (2, 2), (2, 1)), ("root", [-2, 0, 1], (1, 1), (4, 2)), ("root", [-2, 0, 1], 1, (2, 1)),
    ("root", [-2, 0, 1], (1, 1), None), ("root", [-2, 0, 1], (1, 1), 2), ("root", [-2, 0, 1], None, (2, 1)),
    ("root", [-2, 0, 1], (-1, 1), (2, 1)), ("root", [-2, 0, 1], (2, 1), (1, 1)), ("root", [-2, 0, 1], (1, 1), (1, 1)),
    ("root", [-2, 0, 1], (-2, 1), (-1, 1)), ("root", [-2, 0, 1], (-1, 1), (3, 2)),
    # no change of sign: no root, two roots, a root at an end
    ("root", [-2, 0, 1], (0, 1), (1, 1)), ("root", [-2, 0, 1], (2, 1), (3, 1)), ("root", [1, -4, 1], (0, 1), (4, 1)),
    ("root", [2, 0, 1], (0, 1), (9, 1)), ("root", [2, -2, -1, 1], (1, 1), (2, 1)),
    ("root", [0, -2, 0, 1], (0, 1), (2, 1)),
    # three roots, told by their signs as one
    ("root", [-30, 0, 31, 0, -10, 0, 1], (1, 1), (3, 1)), ("root", [30, 0, -31, 0, 10, 0, -1], (0, 1), (5, 1)),
    ("root", [-6, 0, 11, 0, -6, 0, 1], (0, 1), (4, 1)), ("root", [12, 0, -19, 0, 8, 0, -1], (0, 1), (4, 1)),
    # not plain
    ("root", [4, 0, -4, 0, 1], (1, 1), (2, 1)), ("root", product([-2, 0, 1], [-2, 0, 1], [-2, 0, 1]), (1, 1), (2, 1)),
    ("root", product([-2, 0, 1], [-5, 1], [-5, 1]), (1, 1), (2, 1)),
    # a fraction
    ("root", [-1, 1], (0, 1), (2, 1)), ("root", [1, -1], (0, 1), (2, 1)), ("root", [2, -3], (0, 1), (1, 1)),
    ("root", [4, 0, -9], (0, 1), (1, 1)), ("root", [-1, 2], (0, 1), (1, 1)), ("root", [-4, 0, 1], (1, 1), (3, 1)),
    ("root", [-4, 0, 9], (0, 1), (1, 1)), ("root", [6, -5, 1], (5, 2), (7, 2)),
    ("root", product([-2, 0, 1], [-3, 1]), (2, 1), (4, 1)),
    ("root", product([-2, 0, 1], [-10 ** 15, 10 ** 15 - 1]), (3, 4), (11, 10))]


def signs_of(told, spot):
    """The signs of a row, as the document tells them, by the tests' own arithmetic."""
    if spot is None:
        numbers = [one[-1] for one in told if one]
    elif spot == (0, 1):
        numbers = [[number for number in one if number][0] for one in told if one]
    else:
        numbers = [oracle.height(one, read(spot)) for one in told]
    return [number > 0 for number in numbers if number]


def turns_of(told, spot):
    signs = signs_of(told, spot)
    return sum(one != other for one, other in zip(signs, signs[1:]))


def row_of(one):
    told = [list(one)]
    following = oracle.slope_of(one)
    while following:
        told.append(following)
        following = [-number for number in oracle.rest_of(told[-2], told[-1])]
    return told


def made(source, many):
    """A polynomial with known factors, and those of SURDS that are among them."""
    surds = [source.choice(SURDS) for _ in range(source.randint(0, many))]
    factors = [surd.polynomial for surd in surds] + [source.choice(NO_ROOTS) for _ in range(source.randint(0, 1))]
    return product(*factors), surds


def roots_of(surds):
    """The unlike roots of the surds' polynomials, ascending."""
    found = []
    for number in sorted(number for surd in surds for number in surd.numbers()):
        if not found or not is_near(found[-1], number):
            found.append(number)
    return found


class Rows(unittest.TestCase):
    def test_told_rows(self):
        for one, expected in [
                ([5], [[5]]), ([-5], [[-5]]), ([1, 2], [[1, 2], [2]]), ([6, -4], [[6, -4], [-4]]),
                ([1, -4, 1], [[1, -4, 1], [-4, 2], [1]]), ([1, -1, 1], [[1, -1, 1], [-1, 2], [-1]]),
                ([1, 2, 1], [[1, 2, 1], [2, 2]]), ([0, 0, 0, 2], [[0, 0, 0, 2], [0, 0, 6]]), ([0, 3], [[0, 3], [3]]),
                ([2, -8, 2], [[2, -8, 2], [-8, 4], [1]]), ([0, -1, 0, 1], [[0, -1, 0, 1], [-1, 0, 3], [0, 1], [1]])]:
            with self.subTest(one=one):
                self.assertEqual(row(one), expected)
                self.assertEqual(row(one=one), expected)

    def test_rows_as_by_division(self):
        source = random.Random(11)
        for _ in range(200):
            one = some(source, 7, 20)
            if one:
                self.assertEqual(row(one), row_of(one))
        for _ in range(100):
            one, _ = made(source, 4)
            self.assertEqual(row(one), row_of(one))


class Turns(unittest.TestCase):
    def test_told_turns(self):
        told = [[1, -4, 1], [-4, 2], [1]]
        for row_told, spot, expected in [
                (told, (0, 1), 2), (told, (1, 1), 1), (told, None, 0), (told, (2, 1), 1), (told, (-5, 1), 2),
                ([], (1, 1), 0),
                ([], None, 0), ([[]], None, 0), ([[], []], (0, 1), 0), ([[1], [], [-1], [], [1]], (3, 1), 2),
                ([[0, -1], [1]], (0, 1), 1), ([[0, 1], [1]], (0, 1), 0), ([[0, 0, -2, 5], [0, 3]], (0, 1), 1),
                ([[0, -1], [1]], None, 1), ([[1, -1], [1, 1]], None, 1), ([[1, -1], [1, 1]], (0, 1), 0),
                ([[1], [-1, 1], [-1]], (1, 1), 1), ([[1], [-1, 1], [1]], (1, 1), 0), ([[-1, 1], [1]], (1, 1), 0),
                ([[1], [1], [-1], [-1], [1]], (1, 2), 2), ([[-1, 2], [1]], (1, 3), 1), ([[-1, 2], [1]], (2, 3), 0)]:
            with self.subTest(told=row_told, spot=spot):
                self.assertEqual(turns(row_told, spot), expected)
                self.assertEqual(turns(spot=spot, told=row_told), expected)

    def test_turns_as_counted(self):
        source = random.Random(12)
        for _ in range(300):
            told = [some(source, 5) for _ in range(source.randint(0, 8))]
            for spot in [(0, 1), None, (1, 1), (1, 2), (-1, 1), (3, 2), (-7, 3)]:
                self.assertEqual(turns(told, spot), turns_of(told, spot), (told, spot))


class CountedRoots(unittest.TestCase):
    def test_told_counts(self):
        for one, low, high, expected in [
                ([1, -4, 1], (0, 1), None, 2), ([0, -2, 1], (0, 1), (2, 1), 1), ([0, -2, 1], (-1, 1), (0, 1), 1),
                ([0, -2, 1], (-1, 1), (2, 1), 2), ([0, -2, 1], (0, 1), (1, 1), 0), ([0, -2, 1], (2, 1), None, 0),
                ([0, -2, 1], (1, 1), (2, 1), 1), ([0, -2, 1], (2, 1), (3, 1), 0), ([5], (0, 1), None, 0),
                ([-5], (-9, 1), (9, 1), 0),
                ([-2, 0, 1], (-2, 1), (0, 1), 1), ([-2, 0, 1], (-2, 1), (2, 1), 2), ([-2, 0, 1], (-2, 1), None, 2),
                ([1, -2, 1], (0, 1), (1, 1), 1), ([1, -2, 1], (1, 1), (2, 1), 0), ([1, -2, 1], (0, 1), None, 1),
                ([0, 0, 0, 1], (0, 1), None, 0), ([0, 0, 0, 1], (-1, 1), (0, 1), 1), ([1, 0, 1], (-9, 1), None, 0),
                ([-1, 1], (1, 1), (1, 1), 0), ([-1, 1], (2, 1), (0, 1), 0), ([-1, 1], (1, 1), (0, 1), 0),
                ([1, -4, 1], (4, 1), (0, 1), 0), ([-1, 2], (1, 3), (1, 2), 1), ([-1, 2], (1, 2), (2, 3), 0)]:
            with self.subTest(one=one, low=low, high=high):
                self.assertEqual(number_of_roots(one, low, high), expected)
                self.assertEqual(number_of_roots(high=high, low=low, one=one), expected)

    def test_counts_of_known_roots(self):
        source = random.Random(13)
        spots = [(-1000000, 1), (-3, 1), (-1, 1), (-2, 5), (0, 1), (1, 2), (1, 1), (7, 3), (2, 1), (3, 1), (5, 1),
            (1001, 1), None]
        for _ in range(150):
            one, surds = made(source, 4)
            roots = roots_of(surds)
            for low in spots[:-1]:
                for high in spots:
                    least, most = near(low), Decimal("Infinity") if high is None else near(high)
                    expected = len([number for number in roots if least < number <= most])
                    self.assertEqual(number_of_roots(one, low, high), expected, (one, low, high))


class Places(unittest.TestCase):
    def check_root(self, place, polynomial):
        """That a root is told as the document wants it."""
        word, one, low, high = place
        self.assertEqual(word, "root")
        self.assertIsInstance(one, list)
        self.assertEqual(one, oracle.stripped(one))
        self.assertTrue(0 <= read(low) < read(high))
        self.assertEqual((low, high), (oracle.told(read(low)), oracle.told(read(high))))
        self.assertLess(oracle.height(one, read(low)) * oracle.height(one, read(high)), 0)
        self.assertEqual(len(oracle.factor_of(one, oracle.slope_of(one))), 1)
        self.assertNotEqual(oracle.factor_of(one, polynomial), [1])
        self.assertEqual(compare(place, place), 0)

    def test_told_places(self):
        for one, expected in [([7], []), ([-7], []), ([0, 3], []), ([0, 0, 0, 1], []), ([1, 1], []),
            ([-6, 1, 1], [(2, 1)]),
                              ([-1, 2], [(1, 2)]), ([1, -2], [(1, 2)]), ([0, -2, 1], [(2, 1)]), ([1, 0, 1], []),
                              ([2, -3, 1], [(1, 1), (2, 1)]), ([1, -2, 1], [(1, 1)]), ([-4, 0, 9], [(2, 3)]),
                              ([-3, 1000000], [(3, 1000000)]), ([-1000000, 3], [(1000000, 3)]),
                              (product([-1, 3], [-1, 3], [-2, 3], [0, 1], [5, 1]), [(1, 3), (2, 3)]),
                              ([6, -11, 6, -1], [(1, 1), (2, 1), (3, 1)])]:
            with self.subTest(one=one):
                self.assertEqual(places(one), expected)
                self.assertEqual(places(one=one), expected)

    def test_known_roots(self):
        source = random.Random(14)
        for surds in [[surd] for surd in SURDS] + [made(source, 4)[1] for _ in range(300)]:
            one = product(*[surd.polynomial for surd in surds], source.choice(NO_ROOTS))
            expected = [number for number in roots_of(surds) if number > Decimal(10) ** -50]
            found = places(one)
            self.assertEqual(len(found), len(expected), one)
            fractions = {surd.number: oracle.told(surd.fraction) for surd in surds if surd.fraction is not None}
            for place, number in zip(found, expected):
                if number in fractions:
                    self.assertEqual(place, fractions[number])
                else:
                    self.assertTrue(is_near(near(place), number), (one, place))
                    self.check_root(place, one)

    def test_each_root_is_told_between_fractions_that_part_it_from_the_others(self):
        one = product([-2, 0, 1], [-200000001, 0, 100000000], [-1999, 0, 1000], [-3, 2])
        found = places(one)
        self.assertEqual([len(found), found[3]], [4, (3, 2)])
        for place in found[:3]:
            self.check_root(place, one)
        numbers = [(Decimal(above) / below).sqrt() for above, below in [(1999, 1000), (2, 1), (200000001, 100000000)]]
        self.assertTrue(all(is_near(near(place), number) for place, number in zip(found, numbers)))

    def test_random_polynomials(self):
        source = random.Random(15)
        for _ in range(150):
            one = some(source, 7, source.choice([3, 20, 10 ** 6]))
            if one:
                found = places(one)
                self.assertEqual(len(found), number_of_roots(one, (0, 1), None))
                for place in found:
                    self.assertEqual(sign(one, place), 0)
                    if place[0] == "root":
                        self.check_root(place, one)
                    else:
                        self.assertEqual(oracle.height(one, read(place)), 0)
                for place, other in zip(found, found[1:]):
                    self.assertLess(near(place), near(other))


class Signs(unittest.TestCase):
    def test_told_signs(self):
        one, other = ("root", [1, -4, 1], (0, 1), (1, 1)), ("root", [1, -4, 1], (3, 1), (4, 1))
        for polynomial, place, expected in [
                ([], (1, 2), 0), ([], ROOT_2, 0), ([3], ROOT_2, 1), ([-3], ROOT_2, -1), ([-3], (1, 2), -1),
                ([1, -4, 1], (1, 2), -1),
                ([-1, 2], (1, 2), 0), ([-1, 2], (1, 1), 1), ([-1, 4], one, 1), ([1, -4, 1], one, 0),
                ([1, -4, 1], other, 0),
                ([-1, 4, -1], other, 0), ([0, 1, -4, 1], other, 0), ([-1, 1], one, -1), ([-1, 1], other, 1),
                ([4, 0, -4, 0, 1], ROOT_2, 0), ([-3, 2], ROOT_2, -1), ([-7, 5], ROOT_2, 1), ([7, -5], ROOT_2, -1),
                ([-2, 0, 1], ROOT_3, 1), ([-3, 0, 1], ROOT_2, -1), ([0, 1], ROOT_2, 1), ([0, -1], CUBE_2, -1),
                (product([-3, 0, 1], [-3, 0, 1]), ROOT_2, 1),
                (product([-3, 0, 1], [-3, 0, 1], [-1, 0, -1]), ROOT_2, -1)]:
            with self.subTest(polynomial=polynomial, place=place):
                self.assertEqual(sign(polynomial, place), expected)
                self.assertEqual(sign(place=place, one=polynomial), expected)

    def test_signs_at_known_numbers(self):
        source = random.Random(16)
        spots = [(place, near(place)) for surd in SURDS for place in places(surd.polynomial)]
        self.assertEqual(len(spots), 14)
        for _ in range(200):
            surds = [source.choice(SURDS) for _ in range(3)]
            one = product(*[surd.polynomial for surd in surds])
            for place, number in spots:
                expected = 1
                for surd in surds:
                    for other in surd.numbers():
                        expected *= 0 if is_near(other, number) else (1 if number > other else -1)
                self.assertEqual(sign(one, place), expected, (one, place))

    def test_close_to_a_root(self):
        # The fractions come nearer and nearer to the square root of 2, from either side.
        above, below = 1, 1
        for _ in range(18):
            expected = 1 if 2 * below * below > above * above else -1
            self.assertEqual(sign([-above, below], ROOT_2), expected)
            self.assertEqual(sign([-above * above, 0, below * below], ROOT_2), expected)
            self.assertEqual(sign([above, -below], ROOT_2), -expected)
            above, below = above + 2 * below, above + below


class Order(unittest.TestCase):
    # One number in each row, told in several ways, ascending.
    TOLD = [
        [(1, 1000000)],
        [root([-1, 0, 10 ** 6 - 1], 0, 1), root([1, 0, 1 - 10 ** 6], 0, 10 ** 15)],
        [(1, 2)],
        [root([-2, 0, 0, 1], 0, 2), root([-2, 0, 0, 1], oracle.Fraction(5, 4), oracle.Fraction(13, 10)),
         root(product([-2, 0, 0, 1], [1, 0, 1]), 1, 1000), root(product([-2, 0, 0, 1], [-1, 2]), 1, 2)],
        [(7, 5)],
        [ROOT_2, root([2, 0, -1], 1, 2), root([-2, 0, 1], 0, 10 ** 15), root([-6, 0, 3], 0, oracle.Fraction(3, 2)),
         root([-2, 0, 1], oracle.Fraction(14142135, 10 ** 7), oracle.Fraction(14142136, 10 ** 7)),
         root(product([-2, 0, 1], [-3, 0, 1]), 0, oracle.Fraction(3, 2)),
             root(product([-2, 0, 1], [-1, 1]), oracle.Fraction(5, 4), 2),
         root([-4, 0, 0, 0, 1], 1, 5), root(product([-2, 0, 1], [0, 1]), 1, 2),
             root(product([-2, 0, 1], [-3, 2]), oracle.Fraction(7, 5),
                                                                                      oracle.Fraction(71, 50))],
        [root([-200000001, 0, 10 ** 8], 1, 2), root([200000001, 0, -10 ** 8], 0, 3)],
        [(3, 2)],
        [ROOT_3, root(product([-2, 0, 1], [-3, 0, 1]), oracle.Fraction(3, 2), 7), root([-9, 0, 0, 0, 1], 0, 10 ** 9)],
        [(2, 1)],
        [root([1, -4, 1], 3, 4), root([1, -4, 1], 2, 10 ** 15)],
        [(4, 1)],
        [(10 ** 15, 1)]]

    def test_all_pairs(self):
        for k, row_told in enumerate(self.TOLD):
            for j, other_row in enumerate(self.TOLD):
                expected = (k > j) - (k < j)
                for one in row_told:
                    for other in other_row:
                        self.assertEqual(compare(one, other), expected, (one, other))
                        self.assertEqual(compare(other=one, one=other), -expected)

    def test_fractions_close_to_each_other(self):
        many = 10 ** 15
        self.assertEqual(compare((many - 1, many), (many - 2, many - 1)), 1)
        self.assertEqual(compare((many - 2, many - 1), (many - 1, many)), -1)
        self.assertEqual(compare((1, many), (1, many - 1)), -1)
        self.assertEqual(compare((many, many - 1), (many, many - 1)), 0)

    def test_roots_close_to_each_other(self):
        # 7 + 5 * root of 2 and 7 + root of 50 are one number; the other ones are near to it.
        one = root([-1, -14, 1], 14, 15)
        for polynomial, expected in [([-1, -14, 1], 0), ([-1000001, -14000000, 1000000], -1),
            ([-999999, -14000000, 1000000], 1)]:
            for other in [root(polynomial, 14, 15), root(polynomial, 1, 100),
                root([-number for number in polynomial], 14, 10 ** 12)]:
                self.assertEqual(compare(one, other), expected)
                self.assertEqual(compare(other, one), -expected)

    def test_roots_between_the_ends_of_each_other(self):
        pairs = [(oracle.Fraction(0), 9), (oracle.Fraction(7, 5), oracle.Fraction(3, 2)), (oracle.Fraction(1), 2)]
        for low, high in pairs:
            for least, most in pairs:
                one, other = root([-20, 0, 10], low, high), root([-21, 0, 10], least, most)
                self.assertEqual([compare(one, other), compare(other, one)], [-1, 1])

    def test_all_places_of_random_polynomials(self):
        source = random.Random(17)
        found = []
        while len(found) < 40:
            one = some(source, 5, 30)
            found += places(one) if one else []
        numbers = [near(place) for place in found]
        for one, a in zip(found, numbers):
            for other, b in zip(found, numbers):
                expected = 0 if is_near(a, b) else (1 if a > b else -1)
                self.assertEqual(compare(one, other), expected, (one, other))


class WrongInput(Checks):
    def test_what_is_no_polynomial(self):
        for bad in NO_POLYNOMIALS + [[]]:
            with self.subTest(bad=bad):
                self.check_error(InvalidPolynomial, bad, row, bad)
                self.check_error(InvalidPolynomial, bad, row, one=bad)
                self.check_error(InvalidPolynomial, bad, places, bad)
                self.check_error(InvalidPolynomial, bad, places, one=bad)
                self.check_error(InvalidPolynomial, bad, number_of_roots, bad, (0, 1), None)
                self.check_error(InvalidPolynomial, bad, number_of_roots, one=bad, low=(2, 1), high=(1, 1))
        for bad in NO_POLYNOMIALS:
            with self.subTest(bad=bad):
                self.check_error(InvalidPolynomial, bad, turns, [bad], None)
                self.check_error(InvalidPolynomial, bad, turns, [[1], [], bad, [2, 0]], (1, 1))
                self.check_error(InvalidPolynomial, bad, turns, told=[bad], spot=(0, 1))
                self.check_error(InvalidPolynomial, bad, sign, bad, (1, 1))
                self.check_error(InvalidPolynomial, bad, sign, place=ROOT_2, one=bad)

    def test_what_is_no_fraction(self):
        for bad in NO_FRACTIONS:
            with self.subTest(bad=bad):
                if bad is not None:
                    self.check_error(InvalidFraction, bad, turns, [], bad)
                    self.check_error(InvalidFraction, bad, turns, spot=bad, told=[[1, 1], [1]])
                    self.check_error(InvalidFraction, bad, number_of_roots, [1, 1], (0, 1), bad)
                    self.check_error(InvalidFraction, bad, number_of_roots, high=bad, one=[1], low=(3, 1))
                self.check_error(InvalidFraction, bad, number_of_roots, [1, 1], bad, (0, 1))
                self.check_error(InvalidFraction, bad, number_of_roots, [1, 1], bad, None)
                self.check_error(InvalidFraction, bad, number_of_roots, [7], bad, (2, 4))
                self.check_error(InvalidPolynomial, [0], number_of_roots, [0], bad, (2, 4))
                self.check_error(InvalidPolynomial, [], number_of_roots, [], (0, 1), bad)
                self.check_error(InvalidPolynomial, [0], turns, [[0]], bad)

    def test_what_is_no_place(self):
        for bad in NO_PLACES:
            with self.subTest(bad=bad):
                self.check_error(InvalidPlace, bad, sign, [1, 1], bad)
                self.check_error(InvalidPlace, bad, sign, [], bad)
                self.check_error(InvalidPlace, bad, sign, place=bad, one=[3])
                self.check_error(InvalidPlace, bad, compare, bad, (1, 1))
                self.check_error(InvalidPlace, bad, compare, ROOT_2, bad)
                self.check_error(InvalidPlace, bad, compare, other=bad, one=(1, 2))
                self.check_error(InvalidPlace, bad, compare, other=(0, 1), one=bad)
                self.check_error(InvalidPlace, bad, compare, bad, bad)
                self.check_error(InvalidPolynomial, [1, 0], sign, [1, 0], bad)

    def test_roots_that_are_places(self):
        for place in [("root", [-2, 0, 1], (0, 1), (2, 1)), ("root", [2, 0, -1], (1, 1), (10 ** 15, 1)),
                      ("root", [-20, 0, 10], (1, 1), (2, 1)), ("root", product([-2, 0, 1], [-3, 0, 1]), (1, 1), (3, 2)),
                      ("root", product([-2, 0, 1], [-1, 0, 1]), (11, 10), (2, 1)),
                      ("root", product([-2, 0, 1], [0, 1]), (1, 1), (2, 1)),
                      ("root", product([-2, 0, 1], [-1, 1], [-2, 1]), (9, 8), (15, 8)),
                      ("root", [-1, 0, 10 ** 6 - 1], (0, 1), (1, 500)), ("root", [-3, 0, 2], (1, 1), (2, 1))]:
            with self.subTest(place=place):
                self.assertEqual(compare(place, place), 0)
                self.assertEqual(sign([0, 1], place), 1)


class NewLists(Checks):
    CALLS = [(row, [[1, -4, 1]]), (row, [[5]]), (turns, [[[1, -4, 1], []], (0, 1)]),
        (number_of_roots, [[1, -4, 1], (0, 1), None]),
             (places, [product([-2, 0, 1], [1, -4, 1])]), (places, [[-2, 0, 1]]), (sign, [[1, -4, 1], ROOT_2]),
             (compare, [ROOT_2, ROOT_3]), (compare, [ROOT_2, ROOT_2])]

    def test_nothing_is_changed_or_kept(self):
        for call, arguments in self.CALLS:
            with self.subTest(call.__name__, arguments=arguments):
                self.check_nothing_kept(call, *arguments)


if __name__ == "__main__":
    unittest.main()
