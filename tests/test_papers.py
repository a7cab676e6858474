"""Papers: rows that show the sign of a polynomial, right ones and wrong ones."""

import random
import unittest
from fractions import Fraction

import oracle
from checking import Checks
from oracle import height, product
from streams import PLAIN, WIDTHS, done, sign_of, some_part, some_script
from test_places import row_of
from test_polynomials import NO_POLYNOMIALS
from test_signs import WORDS, sign_in
from test_ways import CHAIN, HALT, NARROW
from valvelevels.errors import InvalidClaim, InvalidFraction, InvalidPolynomial, InvalidStep, UnknownTank
from valvelevels.papers import claim_polynomial, judge_paper, paper
from valvelevels.scripts import Script
from valvelevels.ways import ways

# Polynomials above 0 at all places, some of them 0 at 0 or below, and some that are 0 at a place.
POSITIVE = [[1, 1], [3, 2], [0, 1], [1, 0, 1], [1, -1, 1], [7, 1], [5, -4, 1], [2, 0, 0, 1], [0, 0, 1], [9, -5, 1]]
BROKEN = [[-1, 1], [1, -2], [1, -4, 1], [-2, 0, 1], [2, -2, -1, 1], [0, -3, 1]]


def paper_of(one):
    """The row of rests of the plain polynomial, by the tests' own arithmetic."""
    return row_of(oracle.plain_of(one))


def some_product(source, factors):
    chosen = [source.choice(factors) for _ in range(source.randint(0, 3))]
    return chosen + [source.choice(chosen)] if chosen and source.random() < 0.4 else chosen


def grown(source, told, most=60):
    """Each polynomial of a list times a number above 0 of its own."""
    return [product(one, [source.randint(1, 10 ** source.randint(0, most))]) for one in told]


class Paper(Checks):
    def test_told_papers(self):
        for one, word, expected in [
                ([1, -1, 1], "above", [[1, -1, 1], [-1, 2], [-1]]), ([1, -1, 1], "below", None),
                ([-1, 1, -1], "below", [[1, -1, 1], [-1, 2], [-1]]), ([-1, 1, -1], "above", None),
                ([1, -4, 1], "above", None), ([1, -4, 1], "below", None), ([-1, 4, -1], "below", None),
                ([5], "above", [[1]]), ([5], "below", None), ([-5], "below", [[1]]), ([-5], "above", None),
                ([0, 4], "above", [[0, 1], [1]]), ([0, 0, -4], "below", [[0, 1], [1]]),
                ([1, 2, 1], "above", [[1, 1], [1]]), ([1, -2, 1], "above", None), ([6, 4], "above", [[3, 2], [2]]),
                ([0, 1, 0, 1], "above", [[0, 1, 0, 1], [1, 0, 3], [0, -1], [-1]])]:
            with self.subTest(one=one, word=word):
                self.assertEqual(paper(one, word), expected)
                self.assertEqual(paper(word=word, one=one), expected)

    def test_products(self):
        source = random.Random(91)
        for _ in range(400):
            chosen = some_product(source, POSITIVE)
            broken = source.random() < 0.3
            number = source.choice([1, -1]) * source.randint(1, 40)
            one = product(*chosen, *([source.choice(BROKEN)] if broken else []), [number])
            sign = "above" if number > 0 else "below"
            for word in ("above", "below"):
                expected = paper_of(one) if word == sign and not broken else None
                self.assertEqual(paper(one, word), expected, (one, word))
                if expected is not None:
                    self.assertIs(judge_paper(one, word, expected), True)

    def test_what_is_0_twice_at_a_place_has_no_sign(self):
        for factor in BROKEN:
            for more in ([1], [-2], [1, 1], [0, 1]):
                one = product(factor, factor, more)
                self.assertEqual([paper(one, "above"), paper(one, "below")], [None, None])

    def test_great_polynomials(self):
        source = random.Random(92)
        shown = 0
        for _ in range(100):
            one = [source.randint(-10 ** 6, 10 ** 6) for _ in range(7)] + [source.randint(1, 10 ** 6)]
            one[0] = source.choice([abs(one[0]) + 1, 10 ** 6])
            for k in range(1, 7):
                one[k] = one[k] if source.random() < 0.3 else abs(one[k])
            found = paper(one, "above")
            has_root = any(height(one, Fraction(k, 40)) <= 0 for k in range(1, 200))
            if found is None:
                continue
            shown += 1
            self.assertFalse(has_root)
            self.assertEqual(found, paper_of(one))
            self.assertIs(judge_paper(one, "above", grown(source, found)), True)
        self.assertGreater(shown, 20)

    def test_nothing_is_kept(self):
        for one in ([1, -1, 1], [5], [0, 1], [2, 0, 0, 1]):
            self.check_nothing_kept(paper, one, "above")
            self.check_nothing_kept(judge_paper, one, "above", paper(one, "above"))


class Judge(Checks):
    def check_judged(self, expected, one, word, told):
        self.assertIs(judge_paper(one, word, told), expected, (one, word, told))
        self.assertIs(judge_paper(told=told, word=word, one=one), expected)

    def test_told_papers(self):
        for one, word, told, expected in [
                ([1, -1, 1], "above", [[2, -2, 2], [-1, 2], [-1]], True),
                ([1, -1, 1], "above", [[1, -1, 1], [-3, 6], [-5]], True),
                ([1, -1, 1], "below", [[1, -1, 1], [-1, 2], [-1]], False),
                ([-3, 3, -3], "below", [[1, -1, 1], [-1, 2], [-1]], True),
                ([-3, 3, -3], "below", [[-1, 1, -1], [1, -2], [1]], False),
                ([1, -1, 1], "above", [[1, -1, 1], [1, -2], [-1]], False),
                ([1, -1, 1], "above", [[1, -1, 1], [-1, 2], [1]], False),
                ([1, -1, 1], "above", [[1, -1, 1], [-1, 2]], False), ([1, -1, 1], "above", [[1, -1, 1]], False),
                ([1, -1, 1], "above", [], False), ([1, -1, 1], "above", [[1, -1, 1], [-1, 2], [-1], []], False),
                ([1, -1, 1], "above", [[]], False), ([1, -1, 1], "above", [[], [], []], False),
                ([1, -4, 1], "above", [[1, -4, 1], [-4, 2], [1]], False),
                ([1, -4, 1], "below", [[1, -4, 1], [-4, 2], [1]], False),
                ([5], "above", [[1]], True), ([5], "above", [[70]], True), ([5], "above", [[-1]], False),
                ([-5], "below", [[1]], True), ([-5], "below", [[-5]], False), ([-5], "above", [[1]], False),
                ([5], "above", [[1], [1]], False), ([5], "above", [], False), ([5], "above", [[0, 1], [1]], False),
                ([1, 2, 1], "above", [[1, 1], [1]], True), ([1, 2, 1], "above", [[1, 2, 1], [1, 1]], False),
                ([1, 2, 1], "above", [[1, 2, 1], [2, 2]], False), ([0, 0, 3], "above", [[0, 1], [7]], True)]:
            with self.subTest(one=one, word=word, told=told):
                self.check_judged(expected, one, word, told)

    def test_changed_papers(self):
        source = random.Random(93)
        for _ in range(250):
            number = source.choice([1, -1]) * source.randint(1, 9)
            one = product(*[source.choice(POSITIVE) for _ in range(source.randint(1, 3))], [number])
            word = "above" if number > 0 else "below"
            right = grown(source, paper(one, word))
            self.check_judged(True, one, word, right)
            self.check_judged(False, one, "below" if number > 0 else "above", right)
            k = source.randrange(len(right))
            turned = [-number for number in right[k]]
            more = [right[k][0] + source.choice([1, -1])] + right[k][1:]
            less = right[k][:-1] + [right[k][-1] + source.choice([1, -1])]
            ahead, behind = right[:k], right[k + 1:]
            wrong = [ahead + behind, ahead + [right[k], right[k]] + behind, ahead + [turned] + behind,
                     [[-number for number in part] for part in right], right + [[1]], right + [[]], ahead,
                     right[::-1] if len(right) > 1 else [], [one] + right]
            for changed in (more, less):
                changed = oracle.stripped(changed)
                if oracle.whole(changed) != oracle.whole(right[k]):
                    wrong.append(ahead + [changed] + behind)
            if len(right) > 1:
                j = source.randrange(len(right) - 1)
                wrong.append(right[:j] + [right[j + 1], right[j]] + right[j + 2:])
            for told in wrong:
                self.check_judged(False, one, word, told)

    def test_the_paper_of_another_polynomial(self):
        for one in POSITIVE:
            for other in POSITIVE:
                alike = oracle.plain_of(one) == oracle.plain_of(other)
                self.check_judged(alike, one, "above", paper(other, "above"))

    def test_long_papers_with_great_numbers(self):
        source = random.Random(94)
        for _ in range(40):
            told = [oracle.stripped(source.randint(-10 ** 300, 10 ** 300) for _ in range(12)) for _ in range(12)]
            self.check_judged(False, [1, -1, 1], "above", told)
            self.check_judged(False, [1, -1, 1], "above", [[1, -1, 1], [-1, 2], [-1]] + told[:9])
        one = [10 ** 6 - k for k in range(8)]
        self.check_judged(True, one, "above", grown(source, paper(one, "above"), 500))

    def test_a_right_row_without_a_sign(self):
        for one in BROKEN:
            for word in ("above", "below"):
                self.check_judged(False, one, word, paper_of(one))


class ClaimPolynomial(Checks):
    def lowest(self, plan, claim):
        """The form of a difference, from the forms that `ways` tells."""
        (_, forms, _), = ways(plan)
        word, tank, other = claim
        one = forms[tank]
        two = ([other[0]] if other[0] else [], [other[1]]) if word == "not over" else forms[other]
        first, second = product(one[0], two[1]), product(two[0], one[1])
        many = max(len(first), len(second))
        top = oracle.stripped(a - b for a, b in zip(first + [0] * (many - len(first)),
                                                    second + [0] * (many - len(second))))
        bottom = product(one[1], two[1])
        factor = oracle.factor_of(top, bottom)
        top, bottom = oracle.divided(top, factor)[0], oracle.divided(bottom, factor)[0]
        numbers = oracle.whole(top + bottom)
        return numbers[:len(top)], numbers[len(top):]

    def check_claim(self, plan, claim):
        found = claim_polynomial(plan, claim)
        self.assertEqual(claim_polynomial(claim=claim, plan=plan), found)
        self.assertEqual(found, product(*self.lowest(plan, claim)))
        for width in WIDTHS:
            self.assertEqual(sign_of(height(found, width)), sign_in(plan, claim, width))

    def test_told_claims(self):
        self.assertEqual(claim_polynomial(CHAIN, ("above", 0, 2)), [6, 12, 6])
        self.assertEqual(claim_polynomial(CHAIN, ("below", 2, 0)), [-6, -12, -6])
        self.assertEqual(claim_polynomial(CHAIN, ("not over", 2, (1, 1))), [-1, 2, 6, 2, -1])
        self.assertEqual([claim_polynomial(CHAIN, (word, 1, 2)) for word in WORDS[:4]], [[]] * 4)
        self.assertEqual([claim_polynomial(CHAIN, (word, 0, 0)) for word in WORDS[:4]], [[]] * 4)
        self.assertEqual(claim_polynomial(Script([(None, 6)], []), ("not over", 0, (-1, 2))), [0, 24, 2])
        self.assertEqual(claim_polynomial(Script([(None, 6)], []), ("not over", 0, (0, 1))), [0, 6])
        self.assertEqual(claim_polynomial(Script([(4, 6), (None, 0)], []), ("not over", 0, (3, 2))), [])

    def test_random_claims(self):
        source = random.Random(95)
        for _ in range(120):
            plan = some_script(source, PLAIN[:source.randint(0, 6)] if source.random() < 0.7 else ["open"] * 4, 4)
            for word in WORDS:
                tank, other = source.randrange(4), source.randrange(4)
                self.check_claim(plan, (word, tank, some_part(source) if word == "not over" else other))
            level = done(plan, source.choice(WIDTHS))[1][tank]
            self.check_claim(plan, ("not over", tank, oracle.told(level)))
            self.check_claim(plan, ("not over", tank, (10 ** 15, 10 ** 15 - 1)))

    def test_a_paper_shows_a_claim(self):
        found = claim_polynomial(CHAIN, ("above", 0, 2))
        self.assertIs(judge_paper(found, "above", paper(found, "above")), True)
        found = claim_polynomial(CHAIN, ("not over", 2, (3, 2)))
        self.assertEqual([paper(found, "above"), paper(found, "below")], [None, None])
        found = claim_polynomial(CHAIN, ("not over", 2, (2, 1)))
        self.assertIs(judge_paper(found, "below", paper(found, "below")), True)

    def test_nothing_is_kept(self):
        self.check_nothing_kept(claim_polynomial, CHAIN, ("above", 0, 2))
        self.check_nothing_kept(claim_polynomial, CHAIN, ("not over", 0, (1, 2)))


class Wrong(Checks):
    def test_what_is_no_polynomial(self):
        for bad in NO_POLYNOMIALS + [[]]:
            with self.subTest(bad=bad):
                for word in ("above", "below"):
                    self.check_error(InvalidPolynomial, bad, paper, bad, word)
                    self.check_error(InvalidPolynomial, bad, paper, word=word, one=bad)
                    self.check_error(InvalidPolynomial, bad, judge_paper, bad, word, [])
                    self.check_error(InvalidPolynomial, bad, judge_paper, told=[[1]], word=word, one=bad)
        for bad in NO_POLYNOMIALS:
            with self.subTest(bad=bad):
                self.check_error(InvalidPolynomial, bad, judge_paper, [1, 1], "above", [bad])
                self.check_error(InvalidPolynomial, bad, judge_paper, [1, 1], "below", [[1], [], bad, [0]])
                self.check_error(InvalidPolynomial, bad, judge_paper, bad, "above", [[0]])

    def test_claims(self):
        for bad in [("over", 0, (1, 1)), ("", 0, 1), ("shut", 9, 9)]:
            self.check_error(InvalidClaim, bad, claim_polynomial, CHAIN, bad)
            self.check_error(InvalidClaim, bad, claim_polynomial, claim=bad, plan=CHAIN)
        for word in WORDS[:4]:
            for one, other, bad in [(3, 0, 3), (0, 3, 3), (4, 3, 4), (-1, 9, -1)]:
                self.check_error(UnknownTank, bad, claim_polynomial, CHAIN, (word, one, other))
        self.check_error(UnknownTank, 3, claim_polynomial, CHAIN, ("not over", 3, (2, 4)))
        self.check_error(InvalidFraction, (2, 4), claim_polynomial, CHAIN, ("not over", 2, (2, 4)))

    def test_the_first_unless(self):
        for claim in [("above", 0, 1), ("shut", 9, 9), ("above", 9, 9), ("not over", 0, (2, 4))]:
            self.check_error(InvalidStep, ("unless", 0, 1), claim_polynomial, HALT, claim)
            self.check_error(InvalidStep, ("unless", 2, 3), claim_polynomial, NARROW, claim)


if __name__ == "__main__":
    unittest.main()
