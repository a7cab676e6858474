"""What each amount adds to a level, held against scripts with one amount of 1, and amounts that are enough."""

import random
import unittest
from fractions import Fraction

from checking import Checks
from oracle import height, read, told
from streams import WIDTHS, done, number_at, some_script, some_words
from test_ways import CHAIN, HALT, is_form
from valvelevels.errors import InvalidFraction, InvalidStep, UnknownStep, UnknownTank
from valvelevels.places import simplest
from valvelevels.scripts import Script
from valvelevels.shares import enough, shares
from valvelevels.signs import above
from valvelevels.ways import ways

POURED = Script([(1, 6), (None, 0)], [("open", [0, 1]), ("pour", 0, 2)])
ALONE = Script([(None, 6)], [("pour", 0, 2), ("scoop", 0, (1, 4))])
MANY = Script([(2, 4), (None, 6), (1, 0)], [("pour", 2, 0), ("open", [0, 1]), ("pour", 1, 5), ("move", 1, 2, (1, 3)),
                                            ("pour", 2, 3), ("open", [1, 2])])
FAR = WIDTHS + [Fraction(1, 10 ** 60), Fraction(10 ** 60)]
NO_HEIGHTS = [(2, 4), (1, 0), (1, -1), (0, 2), (True, 1), (1,), (), None, 1, [1, 1]]


def amounts_in(plan):
    return [amount for _, amount in plan.tanks] + [step[2] for step in plan.steps if step[0] == "pour"]


def with_amounts(plan, amounts):
    """The same script with other amounts, of the tanks and of the pours."""
    left = list(amounts)
    tanks = [(width, left.pop(0)) for width, _ in plan.tanks]
    return Script(tanks, [step[:2] + (left.pop(0),) if step[0] == "pour" else step for step in plan.steps])


def with_pour(plan, index, amount):
    return Script(plan.tanks, plan.steps[:index] + [plan[index][:2] + (amount,)] + plan.steps[index + 1:])


def some_plain(source, pours=1):
    """A script without `unless`, with a pour or more."""
    while True:
        words = [word for word in some_words(source) if word != "unless"] + ["pour"] * pours
        if len(words) <= 6:
            return some_script(source, words, source.randint(2, 4), source.choice([2, 4, 12]))


def below_height(plan, tank, least):
    """The widths at which a level is below a height from 0 on, that of one more tank."""
    raised = Script(plan.tanks + [(least[1], least[0])], plan.steps)
    return above(raised, len(plan.tanks), tank)


class Shares(Checks):
    def check_shares(self, plan):
        amounts = amounts_in(plan)
        for tank in range(len(plan.tanks)):
            found = shares(plan, tank)
            self.assertEqual(shares(tank=tank, plan=plan), found)
            self.check_new(found, [])
            self.assertEqual(len(found), len(amounts))
            for k, form in enumerate(found):
                self.assertTrue(is_form(form))
                alone = with_amounts(plan, [int(j == k) for j in range(len(amounts))])
                self.assertEqual(form, ways(alone)[0][1][tank])
            for width in FAR:
                parts = [height(top, width) / height(bottom, width) for top, bottom in found]
                self.assertTrue(all(part >= 0 for part in parts))
                level = sum(amount * part for amount, part in zip(amounts, parts))
                self.assertEqual(done(plan, width)[1][tank], level)

    def test_told_shares(self):
        for plan, tank, expected in [
                (POURED, 0, [([1], [1, 1]), ([1], [1, 1]), ([1], [1])]),
                (POURED, 1, [([1], [1, 1]), ([1], [1, 1]), ([], [1])]),
                (ALONE, 0, [([3], [0, 4]), ([3], [0, 4])]), (Script([(None, 0)], []), 0, [([1], [0, 1])]),
                (Script([(3, 5), (None, 1)], []), 0, [([1], [3]), ([], [1])]),
                (Script([(3, 5), (None, 1)], [("pour", 0, 0), ("pour", 1, 7)]), 1,
                 [([], [1]), ([1], [0, 1]), ([], [1]), ([1], [0, 1])]),
                (CHAIN, 2, [([0, 1], [1, 2, 1]), ([0, 1], [1, 2, 1]), ([1], [1, 1])]),
                (Script([(1, 2), (None, 3)], [("scoop", 0, (1, 1)), ("pour", 0, 4)]), 0,
                 [([], [1]), ([], [1]), ([1], [1])])]:
            self.assertEqual(shares(plan, tank), expected)
        for plan in (POURED, ALONE, CHAIN, MANY, Script([(None, 0)], [])):
            self.check_shares(plan)

    def test_the_amounts_themselves_do_not_count(self):
        source = random.Random(121)
        for plan in [MANY] + [some_plain(source) for _ in range(20)]:
            other = with_amounts(plan, [source.randint(0, 12) for _ in amounts_in(plan)])
            for tank in range(len(plan.tanks)):
                self.assertEqual(shares(plan, tank), shares(other, tank))

    def test_random_scripts(self):
        source = random.Random(122)
        for _ in range(120):
            self.check_shares(some_plain(source, source.randint(0, 2)))

    def test_the_bounds(self):
        source = random.Random(123)
        for words in [["open"] * 4 + ["pour"] * 2, ["open"] * 4 + ["move", "pour"], ["pour"] * 6] * 8:
            self.check_shares(some_script(source, words))

    def test_nothing_is_kept(self):
        for plan in (POURED, ALONE, MANY):
            self.check_nothing_kept(shares, plan, 0)


class Enough(Checks):
    def check_enough(self, plan, index, tank, least):
        """That with the told amount no level is below a height, and with one less some level is."""
        found = enough(plan, index, tank, least)
        self.assertEqual(enough(height=least, tank=tank, index=index, plan=plan), found)
        if found is None:
            self.assertTrue(below_height(with_pour(plan, index, 10 ** 9), tank, least))
            return found
        self.assertIs(type(found), int)
        self.assertGreaterEqual(found, 0)
        plenty = with_pour(plan, index, found)
        for width in FAR:
            self.assertGreaterEqual(done(plenty, width)[1][tank], read(least))
        self.assertEqual(below_height(plenty, tank, least), [])
        if found > 0:
            short = with_pour(plan, index, found - 1)
            place = simplest(below_height(short, tank, least)[0])
            level = done(short, number_at(place))[1][tank]
            self.assertLess(level, read(least) if place[0] != "root" else number_at(least))
        return found

    def test_told_amounts(self):
        for plan, index, tank, least, expected in [
                (POURED, 1, 0, (5, 2), 3), (POURED, 1, 1, (1, 2), None), (POURED, 1, 0, (3, 1), 3),
                (POURED, 1, 0, (1, 10 ** 15), 1), (POURED, 1, 0, (0, 1), 0), (POURED, 1, 1, (0, 1), 0),
                (POURED, 1, 0, (10 ** 15, 1), 10 ** 15), (POURED, 1, 0, (10 ** 15, 7), (10 ** 15 + 6) // 7),
                (ALONE, 0, 0, (0, 1), 0), (ALONE, 0, 0, (1, 10 ** 15), None)]:
            self.assertEqual(self.check_enough(plan, index, tank, least), expected)

    def test_heights_below_0(self):
        for plan, index, tank in [(POURED, 1, 0), (POURED, 1, 1), (ALONE, 0, 0), (MANY, 0, 2)]:
            for least in [(-1, 1), (-1, 10 ** 15), (-(10 ** 15), 1), (0, 1)]:
                self.assertEqual(enough(plan, index, tank, least), 0)

    def test_a_height_that_the_level_comes_to(self):
        # Tank 0 stands at 6 / (1 + w) and what is poured, and comes to the latter.
        for least, expected in [((4, 1), 4), ((7, 2), 4), ((9, 2), 5)]:
            self.assertEqual(self.check_enough(POURED, 1, 0, least), expected)
        # Tank 0 stands at (6 + a) / (1 + w) and comes to 6 + a as the width comes to 0, to 0 as it grows.
        first = Script([(1, 6), (None, 0)], [("pour", 0, 2), ("open", [0, 1])])
        self.assertEqual(self.check_enough(first, 0, 0, (1, 5)), None)
        # The last tank stands at 11 / (3 + w) and half of what is poured.
        other = Script([(1, 0), (None, 3), (2, 8)], [("open", [0, 1, 2]), ("pour", 2, 1)])
        self.assertEqual(self.check_enough(other, 1, 2, (5, 1)), 10)

    def test_shares_that_come_to_0(self):
        # As the width comes to 0 what is poured does not come to tank 2, which stands at x + (6 + a) * w / (1 + w).
        steps = [("pour", 0, 0), ("open", [0, 1]), ("move", 1, 2, (1, 1))]
        for x, least, expected in [(0, (1, 1), None), (0, (1, 9), None), (0, (0, 1), 0), (1, (1, 1), 0), (5, (3, 1), 0),
                                   (2, (5, 2), None)]:
            plan = Script([(1, 6), (None, 0), (1, x)], steps)
            self.assertEqual(self.check_enough(plan, 0, 2, least), expected)
        # Tank 2 stands at (12 + a * w) / (1 + w), for small widths far above the height.
        plan = Script([(1, 0), (None, 0), (1, 12)], [("open", [1, 2]), ("scoop", 1, (1, 1))] + steps)
        for least, expected in [((6, 1), 6), ((12, 1), 12), ((25, 2), None), ((11, 2), 6), ((1, 10), 1)]:
            self.assertEqual(self.check_enough(plan, 2, 2, least), expected)
        # As it grows what is poured does not come to tank 2, at 12 - 12 * w / (1 + w) ** 2 and a / (1 + w).
        plan = Script([(1, 12), (None, 0), (1, 0)], [("open", [0, 1]), ("move", 1, 2, (1, 1)), ("pour", 0, 0),
                                                     ("open", [0, 1]), ("move", 0, 2, (1, 1))])
        for least, expected in [((9, 1), 0), ((10, 1), 3), ((11, 1), 6), ((12, 1), 12), ((13, 1), None)]:
            self.assertEqual(self.check_enough(plan, 2, 2, least), expected)

    def test_what_is_there_without_it(self):
        plan = Script([(2, 9), (None, 1)], [("pour", 1, 5), ("open", [0, 1]), ("pour", 0, 0)])
        other = Script([(2, 9), (None, 1)], [("pour", 1, 5)])
        self.assertEqual(self.check_enough(other, 0, 0, (9, 2)), 0)
        self.assertEqual(self.check_enough(other, 0, 0, (5, 1)), None)
        self.assertEqual(self.check_enough(plan, 2, 0, (1, 2)), 1)
        self.assertEqual(self.check_enough(plan, 0, 0, (1, 2)), None)

    def test_the_amount_in_the_script_does_not_count(self):
        for amount in (0, 1, 12):
            self.assertEqual(enough(with_pour(POURED, 1, amount), 1, 0, (5, 2)), 3)

    def test_lowest_between(self):
        # Tank 0 stands at 6 - 6 * w / (1 + w) ** 2 and what is poured, lowest at 1.
        plan = Script(CHAIN.tanks, CHAIN.steps + [("move", 1, 0, (1, 1)), ("pour", 0, 0)])
        for least, expected in [((9, 2), 0), ((5, 1), 1), ((11, 2), 1), ((6, 1), 2), ((13, 2), 2), ((15, 2), 3)]:
            self.assertEqual(self.check_enough(plan, 3, 0, least), expected)
        self.assertEqual(below_height(with_pour(plan, 3, 1), 0, (6, 1))[0][0][0], "root")

    def test_lowest_between_by_chance(self):
        source = random.Random(124)
        between = roots = 0
        for _ in range(300):
            first, last = (source.randint(1, 3), source.randint(4, 12)), (source.randint(1, 3), 0)
            between_them = source.choice([[], [("scoop", 2, (1, 2)), ("open", [1, 2])]])
            back = [("move", 1, 0, source.choice([(1, 1), (3, 4), (5, 6)])), ("pour", 0, 1)]
            plan = Script([first, (None, source.randint(0, 3)), last], CHAIN.steps + between_them + back)
            least = told(Fraction(source.randint(6, 60), source.randint(2, 6)))
            found = self.check_enough(plan, len(plan) - 1, 0, least)
            if found:
                low, _, high, _ = below_height(with_pour(plan, len(plan) - 1, found - 1), 0, least)[0]
                if low != (0, 1) and high is not None:
                    between += 1
                    roots += "root" in (low[0], high[0])
        self.assertGreater(between, 40)
        self.assertGreater(roots, 20)

    def test_random_scripts(self):
        source = random.Random(125)
        kinds = {}
        for _ in range(250):
            plan = some_plain(source, source.randint(1, 2))
            index = source.choice([k for k, step in enumerate(plan.steps) if step[0] == "pour"])
            least = told(Fraction(source.randint(0, 24), source.randint(1, 12)))
            found = self.check_enough(plan, index, source.randrange(len(plan.tanks)), least)
            kinds[found if found is None else min(found, 2)] = 1
        self.assertEqual(len(kinds), 4)

    def test_the_bounds(self):
        source = random.Random(126)
        for _ in range(60):
            plan = some_script(source, ["open"] * 4 + ["pour", source.choice(["pour", "move", "scoop"])])
            index = [step[0] for step in plan.steps].index("pour")
            some = told(Fraction(source.randint(1, 99), 100))
            for least in [(10 ** 15, 1), (10 ** 15, 10 ** 15 - 1), (1, 10 ** 15), some]:
                self.check_enough(plan, index, source.randrange(4), least)


class Wrong(Checks):
    def test_scripts_with_unless(self):
        plan = Script([(1, 6), (None, 0)], [("pour", 0, 1), ("unless", 0, 1), ("unless", 1, 0)])
        self.check_error(InvalidStep, ("unless", 0, 1), shares, plan, 9)
        self.check_error(InvalidStep, ("unless", 0, 1), shares, tank=0, plan=plan)
        for arguments in [(0, 0, (1, 1)), (1, 9, None), (9, 9, (2, 4))]:
            self.check_error(InvalidStep, ("unless", 0, 1), enough, plan, *arguments)
        self.check_error(InvalidStep, ("unless", 0, 1), enough, HALT, 0, 0, (1, 1))

    def test_tanks_that_there_are_not(self):
        for bad in (2, -1, 100):
            self.check_error(UnknownTank, bad, shares, POURED, bad)
            self.check_error(UnknownTank, bad, shares, tank=bad, plan=POURED)
            for index in (0, 1, 9):
                self.check_error(UnknownTank, bad, enough, POURED, index, bad, (2, 4))
        self.check_error(UnknownTank, 1, shares, ALONE, 1)

    def test_steps_that_do_not_pour(self):
        for bad in (0, 2, -1, -2, 100):
            self.check_error(UnknownStep, bad, enough, POURED, bad, 0, (1, 1))
            self.check_error(UnknownStep, bad, enough, height=(2, 4), tank=1, index=bad, plan=POURED)
        for bad in (1, 3, 5, 6):
            self.check_error(UnknownStep, bad, enough, MANY, bad, 0, (1, 1))
        self.check_error(UnknownStep, 0, enough, Script([(None, 1)], []), 0, 0, (1, 1))
        self.check_error(UnknownStep, 1, enough, ALONE, 1, 0, None)

    def test_heights(self):
        for bad in NO_HEIGHTS:
            self.check_error(InvalidFraction, bad, enough, POURED, 1, 0, bad)
            self.check_error(InvalidFraction, bad, enough, height=bad, tank=1, index=1, plan=POURED)

    def test_a_script_answers_the_same_behind_refused_questions(self):
        before = [shares(MANY, 2), enough(MANY, 4, 2, (1, 1)), MANY.tanks, MANY.steps]
        self.check_error(UnknownStep, 1, enough, MANY, 1, 0, (1, 1))
        self.check_error(UnknownTank, 7, shares, MANY, 7)
        self.assertEqual([shares(MANY, 2), enough(MANY, 4, 2, (1, 1)), MANY.tanks, MANY.steps], before)


if __name__ == "__main__":
    unittest.main()
