"""Scripts: what they hold, what is none, and that they never change."""

import copy
import random
import unittest

from checking import Checks
from oracle import lists_in
from streams import some_script, some_step, some_tanks, some_words
from valvelevels.errors import InvalidFraction, InvalidStep, InvalidTank, UnknownStep, UnknownTank
from valvelevels.scripts import Script

TANKS = [(2, 4), (None, 6), (1, 0)]
STEPS = [("open", [0, 1, 2]), ("pour", 1, 5), ("scoop", 0, (1, 2)), ("move", 0, 2, (1, 3)), ("unless", 2, 0),
         ("open", [1, 2])]
NO_TANKS = [(0, 1), (-1, 1), (1, -1), (None, -1), (0, -1), (True, 1), (1, True), (False, 0), (1, None), (None, None),
            ("1", 1), (1, "1"), (1,), (1, 2, 3), (), [1, 2], None, 5]
# What is no step, whatever else is wrong with it.
NO_STEPS = [
    (), ("shut", 0), ("", 0), ("Open", [0, 1]), ("open ", [0, 1]), ("shut", 9, (2, 1)), (None, 0), (0, 1), ([], 1),
    ("open",), ("open", [0, 1], 2), ("open", [0], [1]), ("open", []), ("open", [0]), ("open", [9]), ("open", [1, 0]),
    ("open", [0, 0]), ("open", [0, 1, 1]), ("open", [0, 2, 1]), ("open", [9, 8]), ("open", [1, -1]),
    ("open", (0, 1)), ("open", 0), ("open", [False, True]), ("open", [0, None]),
    ("pour",), ("pour", 0), ("pour", 0, 1, 2), ("pour", 0, -1), ("pour", 9, -1), ("pour", 0, (1, 2)), ("pour", 0, True),
    ("scoop",), ("scoop", 0), ("scoop", 0, 1, (1, 2)), ("scoop", 9, 1, (3, 2)),
    ("move",), ("move", 0, (1, 2)), ("move", 0, 1), ("move", 0, 1, 2, (1, 2)), ("move", 1, 1, (1, 2)),
    ("move", 9, 9, (3, 2)),
    ("unless",), ("unless", 0), ("unless", 0, 1, 2), ("unless", 2, 2), ("unless", 9, 9), ("unless", -1, -1)]
# Steps for tanks that there are not, told with the first one of these; parts that are none do not come first.
STRANGE = [(("open", [0, 3]), 3), (("open", [3, 4]), 3), (("open", [-1, 0, 9]), -1), (("open", [-2, -1]), -2),
           (("pour", 3, 0), 3), (("pour", -1, 2), -1), (("scoop", 3, (1, 2)), 3), (("scoop", 7, (3, 2)), 7),
           (("move", 0, 3, (1, 2)), 3), (("move", 4, 3, (1, 2)), 4), (("move", 1, -1, (2, 4)), -1),
           (("move", -3, 9, (1, 1)), -3), (("unless", 3, 0), 3), (("unless", 0, 3), 3), (("unless", 5, 4), 5),
           (("unless", 0, -1), -1)]
NO_PARTS = [(-1, 2), (3, 2), (2, 1), (-1, 1), (2, 4), (0, 2), (2, 2), (1, 0), (0, 0), (1, -2), (0, -1), (True, 1),
            (0, True), (1,), (1, 2, 3), (), None, 1, 0, [1, 2]]


class Kept(Checks):
    def test_what_it_holds(self):
        plan = Script(TANKS, STEPS)
        self.assertEqual([plan.tanks, plan.steps, plan.unknown, len(plan)], [TANKS, STEPS, 1, 6])
        self.assertEqual([plan[k] for k in range(6)], STEPS)
        named = Script(steps=STEPS, tanks=TANKS)
        self.assertTrue(named == plan)
        self.assertEqual([type(plan.tanks), type(plan.steps), type(plan[0]), type(len(plan))], [list, list, tuple, int])

    def test_no_steps_and_one_tank(self):
        plan = Script([(None, 0)], [])
        self.assertEqual([plan.tanks, plan.steps, plan.unknown, len(plan)], [[(None, 0)], [], 0, 0])
        plan = Script([(None, 3)], [("pour", 0, 0), ("scoop", 0, (0, 1)), ("scoop", 0, (1, 1))])
        self.assertEqual([plan.unknown, len(plan), plan[2]], [0, 3, ("scoop", 0, (1, 1))])

    def test_unknown(self):
        for k in range(4):
            tanks = [(None if j == k else 1, j) for j in range(4)]
            self.assertEqual(Script(tanks, []).unknown, k)

    def test_random_scripts(self):
        source = random.Random(41)
        for _ in range(200):
            many, most = source.choice([(1, 12), (2, 12), (4, 12), (20, 1000)])
            words = some_words(source) if many > 1 else ["pour", "scoop"]
            words = words * (60 // len(words) if many == 20 and words else 1)
            tanks, steps = some_tanks(source, many, most), [some_step(source, word, many, most, most) for word in words]
            plan = Script(tanks, steps)
            self.assertEqual([plan.tanks, plan.steps, len(plan)], [tanks, steps, len(steps)])
            self.assertEqual([plan[k] for k in range(len(plan))], steps)
            self.assertIs(plan.tanks[plan.unknown][0], None)

    def test_it_never_changes(self):
        tanks, steps = copy.deepcopy(TANKS), copy.deepcopy(STEPS)
        plan = Script(tanks, steps)
        for part in lists_in([tanks, steps]):
            part.append(2)
        self.assertEqual([plan.tanks, plan.steps], [TANKS, STEPS])
        for found in (plan.tanks, plan.steps, plan[0], plan.without(1).steps, plan.exchanged(0).steps):
            for part in lists_in(found):
                part.append(3)
        self.assertEqual([plan.tanks, plan.steps, plan[0], len(plan)], [TANKS, STEPS, STEPS[0], 6])
        self.check_new([plan.tanks, plan.steps, plan.tanks, plan.steps, plan[0], plan[5]], [tanks, steps])

    def test_one_list_in_several_steps(self):
        tanks = [0, 1]
        plan = Script(TANKS, [("open", tanks), ("open", tanks)])
        self.check_new([plan.steps, plan[0], plan[0]], tanks)
        other = plan.exchanged(0)
        self.check_new([plan.steps, other.steps], tanks)

    def test_properties_are_not_assigned(self):
        plan = Script(TANKS, STEPS)
        for name in ("tanks", "steps", "unknown"):
            with self.assertRaises(AttributeError):
                setattr(plan, name, [])

    def test_it_is_not_iterated_over(self):
        self.assertRaises(TypeError, list, Script(TANKS, STEPS))


class Changed(Checks):
    def test_without(self):
        plan = Script(TANKS, STEPS)
        for k in range(6):
            for other in (plan.without(k), plan.without(index=k)):
                self.assertEqual([other.tanks, other.steps], [TANKS, STEPS[:k] + STEPS[k + 1:]])
        self.assertEqual(plan.steps, STEPS)
        self.assertEqual(Script(TANKS, STEPS[:1]).without(0).steps, [])

    def test_exchanged(self):
        plan = Script(TANKS, STEPS)
        for k in range(5):
            for other in (plan.exchanged(k), plan.exchanged(index=k)):
                self.assertEqual([other.tanks, other.steps],
                                 [TANKS, STEPS[:k] + [STEPS[k + 1], STEPS[k]] + STEPS[k + 2:]])
                self.assertTrue(other.exchanged(k) == plan)
        self.assertEqual(plan.steps, STEPS)

    def test_unknown_steps(self):
        plan = Script(TANKS, STEPS)
        for k in (-1, -6, 6, 7, 100):
            self.check_error(UnknownStep, k, plan.__getitem__, k)
            with self.assertRaises(UnknownStep):
                plan[k]
            self.check_error(UnknownStep, k, plan.without, k)
            self.check_error(UnknownStep, k, plan.exchanged, index=k)
        self.check_error(UnknownStep, 5, plan.exchanged, 5)
        for bare in (Script(TANKS, []), Script([(None, 1)], [])):
            for call in (bare.__getitem__, bare.without, bare.exchanged):
                self.check_error(UnknownStep, 0, call, 0)
        self.assertEqual([plan.tanks, plan.steps], [TANKS, STEPS])


class Equal(unittest.TestCase):
    def test_equal(self):
        plan = Script(TANKS, STEPS)
        self.assertTrue(plan == Script(list(TANKS), copy.deepcopy(STEPS)))
        self.assertTrue(plan == plan)
        self.assertFalse(plan != Script(TANKS, STEPS))
        self.assertTrue(Script([(None, 0)], []) == Script([(None, 0)], []))

    def test_not_equal(self):
        plan = Script(TANKS, STEPS)
        others = [Script(TANKS[::-1], STEPS), Script([(2, 4), (None, 6), (1, 1)], STEPS), Script(TANKS, STEPS[:-1]),
                  Script([(2, 4), (3, 6), (None, 0)], STEPS), Script(TANKS + [(1, 1)], STEPS), Script(TANKS, []),
                  plan.without(0), plan.exchanged(0), Script(TANKS, STEPS + [("pour", 0, 0)]),
                  Script(TANKS, [("open", [0, 1])] + STEPS[1:])]
        for other in others:
            self.assertFalse(plan == other)
            self.assertTrue(plan != other)

    def test_not_equal_to_anything_else(self):
        plan = Script(TANKS, STEPS)
        for other in (None, 0, True, "", "open", [], (), TANKS, STEPS, (TANKS, STEPS), [TANKS, STEPS], {}, Script,
                      object()):
            self.assertFalse(plan == other)
            self.assertFalse(other == plan)
            self.assertTrue(plan != other)

    def test_random_pairs(self):
        source = random.Random(42)
        plans = [some_script(source, some_words(source)) for _ in range(30)]
        for one in plans:
            for other in plans:
                alike = one.tanks == other.tanks and one.steps == other.steps
                self.assertIs(one == other, alike)
            self.assertTrue(one == Script(one.tanks, one.steps))


class WrongTanks(Checks):
    def test_what_is_no_tank(self):
        for bad in NO_TANKS:
            with self.subTest(bad=bad):
                self.check_error(InvalidTank, bad, Script, [bad], [])
                self.check_error(InvalidTank, bad, Script, TANKS + [bad, (0, 0)], [()])
                # The first one comes ahead of all that is wrong with all of them.
                self.check_error(InvalidTank, bad, Script, steps=[("shut",)], tanks=[(1, 1), bad, (-1, -1), (1, 1)])

    def test_just_one_unknown_width(self):
        for tanks in ([], [(1, 1)], [(1, 1), (2, 2), (3, 3)], [(None, 1), (None, 1)], [(None, 1), (2, 1), (None, 0)]):
            with self.subTest(tanks=tanks):
                self.check_error(InvalidTank, None, Script, tanks, [])
                self.check_error(InvalidTank, None, Script, tanks, [(), ("open", [9])])


class WrongSteps(Checks):
    def test_what_is_no_step(self):
        for bad in NO_STEPS:
            with self.subTest(bad=bad):
                self.check_error(InvalidStep, bad, Script, TANKS, [bad])
                self.check_error(InvalidStep, bad, Script, steps=STEPS + [bad, ()], tanks=TANKS)

    def test_tanks_that_there_are_not(self):
        for bad, number in STRANGE:
            with self.subTest(bad=bad):
                self.check_error(UnknownTank, number, Script, TANKS, [bad])
                self.check_error(UnknownTank, number, Script, TANKS, STEPS + [bad, (), ("scoop", 0, (2, 1))])

    def test_parts(self):
        for bad in NO_PARTS:
            with self.subTest(bad=bad):
                self.check_error(InvalidFraction, bad, Script, TANKS, [("scoop", 0, bad)])
                self.check_error(InvalidFraction, bad, Script, TANKS, STEPS + [("move", 2, 1, bad), ()])
                self.check_error(UnknownTank, 3, Script, TANKS, [("scoop", 3, bad)])
                self.check_error(UnknownTank, 4, Script, TANKS, [("move", 0, 4, bad)])
                self.check_error(InvalidStep, ("move", 4, 4, bad), Script, TANKS, [("move", 4, 4, bad)])
        for good in [(0, 1), (1, 1), (1, 2), (999, 1000)]:
            self.assertEqual(Script(TANKS, [("scoop", 0, good), ("move", 0, 1, good)]).steps[1][3], good)

    def test_steps_in_their_order(self):
        self.check_error(UnknownTank, 3, Script, TANKS, [("pour", 3, 1), ()])
        self.check_error(InvalidFraction, (2, 1), Script, TANKS, [("scoop", 0, (2, 1)), ("pour", 3, 1)])
        self.check_error(InvalidStep, (), Script, TANKS, [(), ("scoop", 0, (2, 1)), ("pour", 3, 1)])

    def test_one_tank(self):
        for bad in [("open", [0, 1]), ("move", 0, 1, (1, 2)), ("unless", 0, 1)]:
            self.check_error(UnknownTank, 1, Script, [(None, 1)], [bad])


if __name__ == "__main__":
    unittest.main()
