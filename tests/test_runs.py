"""What scripts do at told widths, held against slow arithmetic with Python's own fractions."""

import random
import unittest
from fractions import Fraction

from checking import Checks
from oracle import read, told
from streams import PLAIN, WIDTHS, WORDS, expected_run, some_script, some_step, some_tanks, some_words
from valvelevels.errors import InvalidFraction
from valvelevels.scripts import Script
from valvelevels.ways import run

NO_WIDTHS = [(0, 1), (-1, 1), (-3, 2), (2, 4), (2, 2), (1, 0), (0, 0), (1, -1), (0, 2), (True, 1), (1, True), (1,),
             (1, 2, 3), (), None, 1, 0, [1, 2], "1", ("root", [-2, 0, 1], (1, 1), (2, 1))]
FAR = 10 ** 15


def at(tanks, steps, width=(1, 1)):
    return run(Script(tanks, steps), width)


class Told(unittest.TestCase):
    def check(self, tanks, steps, width, expected):
        plan = Script(tanks, steps)
        self.assertEqual(run(plan, width), expected)
        self.assertEqual(run(width=width, plan=plan), expected)
        self.assertEqual(expected_run(tanks, steps, Fraction(*width)), expected)

    def test_no_steps(self):
        self.check([(None, 0)], [], (1, 1), (None, [(0, 1)]))
        self.check([(None, 6)], [], (4, 1), (None, [(3, 2)]))
        self.check([(None, 6)], [], (2, 3), (None, [(9, 1)]))
        self.check([(4, 6), (None, 5), (3, 0)], [], (1, 7), (None, [(3, 2), (35, 1), (0, 1)]))

    def test_open(self):
        tanks = [(2, 4), (None, 6), (1, 0)]
        self.check(tanks, [("open", [0, 1])], (3, 1), (None, [(2, 1), (2, 1), (0, 1)]))
        self.check(tanks, [("open", [0, 2])], (3, 1), (None, [(4, 3), (2, 1), (4, 3)]))
        self.check(tanks, [("open", [0, 1, 2])], (1, 2), (None, [(20, 7)] * 3))
        self.check(tanks, [("open", [1, 2]), ("open", [0, 2])], (2, 1), (None, [(2, 1)] * 3))
        self.check([(1, 0), (None, 0)], [("open", [0, 1])], (9, 7), (None, [(0, 1), (0, 1)]))

    def test_a_valve_opened_twice(self):
        tanks, valve = [(2, 4), (None, 6), (1, 3)], ("open", [0, 2])
        self.assertEqual(at(tanks, [valve, valve], (5, 3)), at(tanks, [valve], (5, 3)))
        self.check(tanks, [valve, ("pour", 0, 3), valve], (1, 1), (None, [(10, 3), (6, 1), (10, 3)]))

    def test_pour(self):
        self.check([(4, 6), (None, 5)], [("pour", 0, 1), ("pour", 1, 2), ("pour", 0, 0)], (2, 1),
                   (None, [(7, 4), (7, 2)]))
        self.check([(None, 0)], [("pour", 0, 3), ("pour", 0, 4)], (1, 2), (None, [(14, 1)]))

    def test_scoop(self):
        self.check([(4, 6), (None, 5)], [("scoop", 0, (1, 3)), ("scoop", 1, (4, 5))], (2, 1), (None, [(1, 1), (1, 2)]))
        self.check([(4, 6), (None, 5)], [("scoop", 0, (0, 1)), ("scoop", 1, (1, 1))], (2, 1), (None, [(3, 2), (0, 1)]))
        self.check([(4, 0), (None, 5)], [("scoop", 0, (1, 2))], (5, 1), (None, [(0, 1), (1, 1)]))

    def test_move(self):
        tanks = [(4, 6), (None, 5), (3, 0)]
        self.check(tanks, [("move", 0, 2, (1, 2))], (1, 1), (None, [(3, 4), (5, 1), (1, 1)]))
        self.check(tanks, [("move", 1, 0, (2, 5))], (1, 2), (None, [(2, 1), (6, 1), (0, 1)]))
        self.check(tanks, [("move", 0, 1, (1, 1))], (11, 3), (None, [(0, 1), (3, 1), (0, 1)]))
        self.check(tanks, [("move", 0, 1, (0, 1))], (5, 3), (None, [(3, 2), (3, 1), (0, 1)]))
        self.check(tanks, [("move", 2, 1, (1, 1))], (5, 3), (None, [(3, 2), (3, 1), (0, 1)]))

    def test_unless(self):
        tanks = [(2, 4), (None, 6)]
        steps = [("pour", 0, 0), ("unless", 0, 1), ("pour", 0, 2), ("unless", 1, 0), ("scoop", 1, (1, 1))]
        self.check(tanks, steps, (4, 1), (1, [(2, 1), (3, 2)]))
        self.check(tanks, steps, (3, 1), (None, [(3, 1), (0, 1)]))
        self.check(tanks, steps, (2, 1), (None, [(3, 1), (0, 1)]))
        self.check(tanks, steps, (1, 1), (3, [(3, 1), (6, 1)]))
        self.check(tanks, steps, (3 * FAR // 5 + 1, FAR // 5), (1, [(2, 1), (6 * FAR // 5, 3 * FAR // 5 + 1)]))
        self.check(tanks, steps[1:], (10, 3), (0, [(2, 1), (9, 5)]))

    def test_levels_that_are_even_do_not_end_it(self):
        self.check([(2, 4), (None, 4)], [("unless", 0, 1), ("unless", 1, 0), ("pour", 0, 1)], (2, 1),
                   (None, [(5, 2), (2, 1)]))


class Random(Checks):
    def test_random_scripts(self):
        source = random.Random(51)
        for _ in range(600):
            words = some_words(source)
            plan = some_script(source, words, source.randint(2, 6), source.choice([2, 12]))
            tanks, steps = plan.tanks, plan.steps
            for width in source.sample(WIDTHS, 5) + [Fraction(source.randint(1, FAR), source.randint(1, FAR))]:
                self.assertEqual(run(plan, told(width)), expected_run(tanks, steps, width))
            self.assertEqual([plan.tanks, plan.steps], [tanks, steps])

    def test_greater_scripts(self):
        source = random.Random(52)
        for turn in range(25):
            words = ["open"] * 20 + ["pour"] * 15 + ["scoop"] * 10 + ["move"] * 15
            if turn % 2:
                words[10:15] = ["unless"] * 5
            tanks = some_tanks(source, 20, 1000)
            steps = [some_step(source, word, 20, 1000, 1000) for word in source.sample(words, 60)]
            plan = Script(tanks, steps)
            for width in [Fraction(source.randint(1, FAR), source.randint(1, FAR)), Fraction(FAR, FAR - 1),
                          Fraction(1, FAR), Fraction(FAR)]:
                self.assertEqual(run(plan, told(width)), expected_run(tanks, steps, width))

    def test_greater_scripts_in_which_an_unless_comes_late(self):
        source = random.Random(53)
        ends = []
        for _ in range(40):
            tanks = some_tanks(source, 20, 1000)
            steps = [some_step(source, source.choice(PLAIN), 20, 1000, 1000) for _ in range(40)]
            steps += [some_step(source, source.choice(WORDS), 20, 1000, 1000) for _ in range(20)]
            width = Fraction(source.randint(1, FAR), source.randint(1, FAR))
            found = run(Script(tanks, steps), told(width))
            self.assertEqual(found, expected_run(tanks, steps, width))
            ends.append(found[0])
        self.assertTrue([end for end in ends if end is not None])

    def test_water_is_kept(self):
        source = random.Random(54)
        for _ in range(200):
            plan = some_script(source, ["open", "open", "pour", "move", "open", "pour"], source.randint(2, 4))
            width = source.choice(WIDTHS)
            _, levels = run(plan, told(width))
            water = sum([amount for _, amount in plan.tanks] + [step[2] for step in plan.steps if step[0] == "pour"])
            widths = [width if told_width is None else told_width for told_width, _ in plan.tanks]
            self.assertEqual(sum(read(level) * widths[k] for k, level in enumerate(levels)), water)


class Wrong(Checks):
    def test_what_is_no_width(self):
        plan = Script([(2, 4), (None, 6)], [("open", [0, 1]), ("unless", 0, 1)])
        for bad in NO_WIDTHS:
            with self.subTest(bad=bad):
                self.check_error(InvalidFraction, bad, run, plan, bad)
                self.check_error(InvalidFraction, bad, run, width=bad, plan=plan)
        self.check_nothing_kept(run, plan, (3, 1))


if __name__ == "__main__":
    unittest.main()
