"""Scripts that do the same, where others do not, and steps that can be left out or exchanged."""

import itertools
import random
import unittest
from fractions import Fraction

from checking import Checks
from oracle import told
from streams import (
    ALL, PLAIN, WIDTHS, WORDS, beside, done, ends_of, is_told_well, lively_scripts, number_at, sign_of, some_script,
    some_step, some_words)
from test_signs import simplest_of_all
from test_ways import CHAIN, EVEN, HALT, HIGH, LOW, NARROW, POINTS
from valvelevels.changes import alike, first_unlike, least_sets, may_exchange, needless, unlike
from valvelevels.errors import InvalidTank, UnknownStep
from valvelevels.places import compare, has, same, without
from valvelevels.scripts import Script
from valvelevels.ways import ways

TANKS = [(1, 6), (None, 0), (1, 0)]
SPOT = [((2, 1), True, (2, 1), True)]


def are_unlike(one, other, width):
    """Whether levels at the ends of two scripts are not the same at a width of any kind."""
    mine, yours = done(one, width)[1], done(other, width)[1]
    return any(sign_of(level - yours[k]) for k, level in enumerate(mine))


class PairChecks(Checks):
    def check_pair(self, one, other):
        """That all that is told of two scripts is right at many widths, and at all ends."""
        found = unlike(one, other)
        self.assertTrue(is_told_well(found))
        self.check_new(found, [])
        ends = ends_of(found, *[widths for _, _, widths in ways(one) + ways(other)])
        for width in WIDTHS + [number for end in ends for number in beside(end)]:
            self.assertEqual(has(found, told(width)), are_unlike(one, other, width))
        for end in ends:
            self.assertEqual(has(found, end), are_unlike(one, other, number_at(end)))
        self.assertEqual(unlike(other=other, one=one), found)
        self.assertTrue(same(unlike(other, one), found))
        for pair in ((one, other), (other, one)):
            self.assertIs(alike(*pair), found == [])
        self.assertIs(alike(other=other, one=one), found == [])
        expected, place = simplest_of_all(found), first_unlike(one, other)
        if expected is None or expected[0] != "root":
            self.assertEqual(place, expected)
        else:
            self.assertEqual([place[0], compare(place, expected)], ["root", 0])
        self.assertEqual(first_unlike(other=other, one=one), place)
        return found


class Pairs(PairChecks):
    def test_told_pairs(self):
        both = [("open", [0, 1]), ("open", [0, 2])]
        for one, other, expected in [
                (both, both[::-1], [ALL]), (both, both, []), ([], [], []), ([], [("pour", 0, 1)], [ALL]),
                ([], [("unless", 0, 2), ("pour", 0, 1)], []),
                ([], [("unless", 2, 0), ("pour", 0, 1)], [ALL]), ([], [("pour", 1, 0), ("scoop", 2, (1, 1))], []),
                ([("open", [1, 2])], [], []), ([("scoop", 0, (1, 1))], [("move", 0, 1, (0, 1))], [ALL]),
                ([("pour", 0, 1), ("pour", 0, 1)], [("pour", 0, 2)], []),
                ([("scoop", 0, (1, 2)), ("scoop", 0, (2, 3))], [("scoop", 0, (5, 6))], []),
                ([("move", 0, 2, (1, 2))], [("open", [0, 2])], []),
                ([("open", [0, 1, 2])], [("open", [0, 2]), ("open", [1, 2]), ("open", [0, 1, 2])], [])]:
            with self.subTest(one=one, other=other):
                self.assertEqual(self.check_pair(Script(TANKS, one), Script(TANKS, other)), expected)

    def test_by_another_unless_with_the_same_levels(self):
        tanks = [(2, 4), (None, 6)]
        one = Script(tanks, [("unless", 0, 1), ("open", [0, 1])])
        other = Script(tanks, [("pour", 0, 0), ("move", 0, 1, (0, 1)), ("unless", 0, 1), ("open", [0, 1])])
        self.assertEqual(self.check_pair(one, other), [])
        other = Script(tanks, [("unless", 0, 1), ("unless", 0, 1), ("open", [0, 1])])
        self.assertEqual(self.check_pair(one, other), [])
        # Here the one is over and the other one is not.
        self.assertEqual(self.check_pair(Script(tanks, [("unless", 0, 1)]), Script(tanks, [])), [])
        self.assertEqual(self.check_pair(Script(tanks, [("unless", 0, 1), ("unless", 1, 0)]),
                                         Script(tanks, [("unless", 1, 0), ("pour", 1, 0)])), [])
        self.assertEqual(self.check_pair(one, Script(tanks, [("unless", 1, 0), ("open", [0, 1])])),
                         [((0, 1), False, (3, 1), False), ((3, 1), False, None, False)])
        self.assertEqual(self.check_pair(one, Script(tanks, [])), [((0, 1), False, (3, 1), False)])

    def test_unlike_at_a_single_fraction(self):
        other = Script(EVEN.tanks, EVEN.steps[:2] + [("pour", 0, 1)])
        self.assertEqual(self.check_pair(Script(EVEN.tanks, []), other), SPOT)
        self.assertEqual(first_unlike(Script(EVEN.tanks, []), other), (2, 1))

    def test_alike_at_a_single_fraction(self):
        one = Script([(1, 2), (None, 4)], [])
        self.assertEqual(self.check_pair(one, Script(one.tanks, [("open", [0, 1])])), without([ALL], SPOT))
        self.assertEqual(first_unlike(one, Script(one.tanks, [("open", [0, 1])])), (1, 1))

    def test_unlike_at_roots_alone(self):
        found = self.check_pair(Script(NARROW.tanks, NARROW.steps[:2]), NARROW)
        self.assertTrue(same(found, POINTS))
        place = first_unlike(Script(NARROW.tanks, NARROW.steps[:2]), NARROW)
        self.assertEqual([place[0], compare(place, LOW)], ["root", 0])
        # At the greater root alone tank 0, at 6 / (1 + w), is not above 2.
        steps = NARROW.steps[:4] + [("pour", 3, 1), ("unless", 0, 3)]
        found = self.check_pair(Script(NARROW.tanks, steps), Script(NARROW.tanks, steps + [("pour", 1, 1)]))
        self.assertTrue(same(found, POINTS[1:]))
        place = first_unlike(Script(NARROW.tanks, steps), Script(NARROW.tanks, steps + [("pour", 1, 1)]))
        self.assertEqual([place[0], compare(place, HIGH)], ["root", 0])

    def test_alike_at_roots_alone(self):
        # Tanks 2 and 3 are even at the roots alone, where opening both does nothing.
        found = self.check_pair(Script(NARROW.tanks, NARROW.steps[:2]),
                                Script(NARROW.tanks, NARROW.steps[:2] + [("open", [2, 3])]))
        self.assertTrue(same(found, without([ALL], POINTS)))

    def test_one_tank_alone(self):
        tanks = [(None, 3)]
        self.assertEqual(self.check_pair(Script(tanks, []), Script(tanks, [("scoop", 0, (1, 3))])), [ALL])
        self.assertEqual(self.check_pair(Script(tanks, []), Script(tanks, [("pour", 0, 0), ("scoop", 0, (0, 1))])), [])

    def test_random_pairs(self):
        source = random.Random(101)
        parts = 0
        for _ in range(150):
            one = some_script(source, some_words(source), source.randint(2, 4), source.choice([3, 12]))
            for other in some_changes(source, one):
                found = self.check_pair(one, other)
                parts += found not in ([], [ALL])
        for one in lively_scripts(source, 40, 20):
            for other in some_changes(source, one):
                found = self.check_pair(one, other)
                parts += found not in ([], [ALL])
        self.assertGreater(parts, 50)

    def test_so_many_widths_decide_without_unless(self):
        source = random.Random(102)
        for _ in range(300):
            one = some_script(source, PLAIN, 3, 4)
            other = Script(one.tanks, source.sample(one.steps, 6)) if source.random() < 0.5 else one.without(2)
            opens = [step for step in one.steps + other.steps if step[0] == "open" and one.unknown in step[1]]
            place = first_unlike(one, other)
            if place is not None:
                self.assertEqual(place[1], 1)
                self.assertLessEqual(place[0], len(opens) + 1)

    def test_the_bounds(self):
        source = random.Random(103)
        for _ in range(40):
            one = some_script(source, WORDS)
            self.check_pair(one, Script(one.tanks, [some_step(source, word, 4) for word in WORDS]))
            self.check_pair(one, one.exchanged(source.randrange(5)))

    def test_nothing_is_kept(self):
        pair = (Script(NARROW.tanks, NARROW.steps[:2]), NARROW)
        for call in (alike, unlike, first_unlike):
            self.check_nothing_kept(call, *pair)
            self.check_nothing_kept(call, *pair[::-1])
        self.check_nothing_kept(first_unlike, Script(EVEN.tanks, []), EVEN)


def some_changes(source, plan):
    """Scripts with the same tanks that differ in a step or two."""
    found = [plan.without(k) for k in range(len(plan))]
    found += [plan.exchanged(k) for k in range(len(plan) - 1)]
    many = len(plan.tanks)
    words = ["pour", "scoop"] + (["open", "unless", "move"] if many > 1 else [])
    found.append(Script(plan.tanks, plan.steps[:5] + [some_step(source, source.choice(words), many)]))
    return source.sample(found, min(2, len(found)))


class Steps(Checks):
    def check_steps(self, plan):
        many = len(plan)
        expected = [k for k in range(many) if alike(plan, plan.without(k))]
        self.assertEqual(needless(plan), expected)
        self.assertEqual(needless(plan=plan), expected)
        chosen = [list(part) for size in range(many + 1) for part in itertools.combinations(range(many), size)
                  if alike(plan, Script(plan.tanks, [plan[k] for k in part]))]
        least = [part for part in chosen if not [other for other in chosen if set(other) < set(part)]]
        self.assertEqual(least_sets(plan), least)
        self.assertEqual(least_sets(plan=plan), least)
        for k in range(many - 1):
            expected = unlike(plan, plan.exchanged(k)) == []
            self.assertIs(may_exchange(plan, k), expected)
            self.assertIs(may_exchange(index=k, plan=plan), expected)
        return least

    def test_told_steps(self):
        valve, other = ("open", [0, 1]), ("open", [1, 2])
        nothing = [("pour", 0, 0), ("scoop", 1, (0, 1)), ("move", 0, 2, (0, 1)), ("unless", 0, 1)]
        for steps, spare, least in [
                ([], [], [[]]), ([valve], [], [[0]]), ([valve, valve], [0, 1], [[0], [1]]),
                ([valve, valve, ("pour", 2, 0)], [0, 1, 2], [[0], [1]]), (nothing, [0, 1, 2, 3], [[]]),
                ([valve] * 6, [0, 1, 2, 3, 4, 5], [[k] for k in range(6)]),
                ([valve, other, valve, other], [], [[0, 1, 2, 3]]),
                ([("pour", 0, 1), ("pour", 0, 1), ("pour", 0, 2)], [], [[0, 1, 2]]),
                ([("scoop", 0, (1, 1)), ("scoop", 0, (1, 2)), ("scoop", 0, (1, 1))], [0, 1, 2], [[0], [2]]),
                ([("pour", 0, 5), ("scoop", 0, (1, 1)), ("pour", 0, 7)], [0], [[1, 2]]),
                # Without both of the first ones it does the same, too; the last one alone does not.
                ([("pour", 0, 6), ("scoop", 0, (1, 2))], [], [[]]),
                ([("pour", 2, 6), ("move", 2, 0, (1, 1)), ("scoop", 0, (1, 2))], [], [[]]),
                ([("pour", 2, 3), ("scoop", 2, (1, 1)), ("pour", 1, 0), ("pour", 2, 0)], [0, 2, 3], [[]]),
                ([("unless", 0, 1), ("pour", 0, 1), valve], [1, 2], [[]]),
                ([("unless", 1, 0), valve], [0], [[1]])]:
            with self.subTest(steps=steps):
                plan = Script(TANKS, steps)
                self.assertEqual(self.check_steps(plan), least)
                self.assertEqual(needless(plan), spare)

    def test_a_step_that_counts_at_a_single_place(self):
        plan = Script(EVEN.tanks, EVEN.steps[:2] + [("pour", 0, 1)])
        self.assertEqual([needless(plan), self.check_steps(plan)], [[], [[0, 1, 2]]])
        # It lets no water run where both are even.
        self.assertEqual([needless(EVEN), self.check_steps(EVEN)], [[2], [[]]])
        plan = Script(NARROW.tanks, NARROW.steps[:4] + [("open", [2, 3])])
        self.assertEqual([needless(plan), self.check_steps(plan)], [[4], [[0, 1]]])
        self.assertEqual([needless(NARROW), self.check_steps(NARROW)], [[], [[0, 1, 2, 3, 4]]])

    def test_sets_in_order(self):
        # By their number, then as lists.
        tanks, half = [(1, 0), (None, 0)], ("scoop", 0, (1, 2))
        for amounts, least in [([1, 2, 3], [[2], [0, 1]]), ([1, 2, 2, 1], [[0, 1], [0, 2], [1, 3], [2, 3]]),
                               ([4, 1, 1, 2], [[0], [1, 2, 3]]), ([3, 1, 2], [[0], [1, 2]])]:
            plan = Script(tanks, [("pour", 0, amount) for amount in amounts] + [half])
            self.assertEqual(self.check_steps(plan), least)
        plan = Script([(1, 6), (None, 0)], [("pour", 0, 1), ("pour", 0, 2), ("pour", 0, 3), ("scoop", 0, (1, 1)),
                                            ("pour", 0, 3), ("scoop", 0, (0, 1))])
        self.assertEqual(self.check_steps(plan), [[3, 4]])

    def test_exchanges(self):
        for steps, expected in [
                ([("pour", 0, 2), ("pour", 2, 1)], True), ([("open", [0, 1]), ("open", [0, 2])], False),
                ([("pour", 0, 2), ("scoop", 0, (1, 2))], False), ([("pour", 0, 2), ("scoop", 2, (1, 2))], True),
                ([("pour", 0, 2), ("unless", 0, 2)], False), ([("pour", 0, 0), ("unless", 0, 2)], True),
                ([("open", [0, 1]), ("open", [0, 1])], True), ([("unless", 0, 1), ("unless", 1, 0)], True)]:
            self.assertIs(may_exchange(Script(TANKS, steps), 0), expected)

    def test_random_scripts(self):
        source = random.Random(104)
        sizes = {}
        for _ in range(120):
            words = some_words(source)
            plan = some_script(source, words, source.randint(2, 4), source.choice([1, 2, 4]))
            sizes[len(self.check_steps(plan))] = 1
        self.assertGreater(len(sizes), 2)

    def test_random_scripts_of_several_ways(self):
        for plan in lively_scripts(random.Random(105), 12, 6):
            self.check_steps(plan)

    def test_the_bounds(self):
        source = random.Random(106)
        for _ in range(25):
            self.check_steps(some_script(source, WORDS))

    def test_nothing_is_kept(self):
        for plan in (CHAIN, HALT, NARROW, EVEN, Script(TANKS, [("open", [0, 1])] * 3)):
            self.check_nothing_kept(needless, plan)
            self.check_nothing_kept(least_sets, plan)
            self.check_nothing_kept(may_exchange, plan, 0)


class Wrong(Checks):
    def test_tanks_that_are_not_the_same(self):
        one = Script(TANKS, [("open", [0, 1])])
        for tanks, bad, back in [
                ([(1, 6), (None, 0), (1, 1)], (1, 0), (1, 1)), ([(1, 6), (None, 0)], (1, 0), (1, 0)),
                ([(1, 6), (None, 0), (1, 0), (2, 3), (4, 5)], (2, 3), (2, 3)), ([(None, 6)], (1, 6), (None, 6)),
                ([(None, 6), (1, 0), (1, 0)], (1, 6), (None, 6)), ([(1, 6), (1, 0), (None, 0)], (None, 0), (1, 0)),
                ([(2, 6), (None, 1)], (1, 6), (2, 6)), ([(1, 5), (None, 0), (1, 0), (9, 9)], (1, 6), (1, 5))]:
            other = Script(tanks, [])
            for call in (alike, unlike, first_unlike):
                with self.subTest(call.__name__, tanks=tanks):
                    self.check_error(InvalidTank, bad, call, one, other)
                    self.check_error(InvalidTank, bad, call, other=other, one=one)
                    self.check_error(InvalidTank, back, call, other, one)

    def test_steps(self):
        plan = Script(TANKS, [("open", [0, 1]), ("pour", 0, 1), ("unless", 0, 1)])
        for bad in (2, 3, 4, -1, -2, -3):
            self.check_error(UnknownStep, bad, may_exchange, plan, bad)
            self.check_error(UnknownStep, bad, may_exchange, index=bad, plan=plan)
        for bad in (0, 1, -1):
            self.check_error(UnknownStep, bad, may_exchange, Script(TANKS, []), bad)
            self.check_error(UnknownStep, bad, may_exchange, Script(TANKS, [("pour", 0, 1)]), bad)

    def test_a_script_answers_the_same_behind_refused_questions(self):
        plan, other = NARROW, Script(NARROW.tanks, NARROW.steps[:2])
        before = [unlike(plan, other), needless(plan), least_sets(plan)]
        self.check_error(InvalidTank, NARROW.tanks[3], unlike, plan, CHAIN)
        self.check_error(UnknownStep, 9, may_exchange, plan, 9)
        self.assertEqual([unlike(plan, other), needless(plan), least_sets(plan)], before)
        self.assertEqual(Fraction(*first_unlike(Script(TANKS, []), CHAIN)), 1)


if __name__ == "__main__":
    unittest.main()
