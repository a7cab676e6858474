"""Benches that are led step by step, held against runs of the scripts with the same steps."""

import copy
import random
import unittest
from fractions import Fraction

from checking import Checks
from oracle import lists_in, read, told
from streams import WIDTHS, WORDS, expected_run, some_part, some_step, some_tanks, some_words
from test_runs import NO_WIDTHS
from test_scripts import NO_PARTS, NO_STEPS, NO_TANKS, STRANGE
from valvelevels.benches import Bench
from valvelevels.errors import InvalidFraction, InvalidStep, InvalidTank, NothingToUndo, UnknownTank
from valvelevels.scripts import Script
from valvelevels.ways import run

TANKS = [(2, 4), (None, 6)]
THREE = [(2, 4), (None, 6), (1, 0)]
MIXED = ["open", "pour", "scoop", "move", "unless"]


class BenchChecks(Checks):
    def check_bench(self, bench, tanks, steps, width):
        """That a bench stands as the script with some steps leaves it at its width."""
        index, levels = expected_run(tanks, steps, read(width))
        found = bench.levels()
        self.assertEqual([bench.ended, found, len(bench)], [index, levels, len(steps)])
        self.assertEqual(run(bench.script(), width), (index, levels))
        self.assertEqual([bench.script().tanks, bench.script().steps], [tanks, steps])
        self.assertEqual(bench.water(), told(self.all_water(tanks, levels, width)))

    def all_water(self, tanks, levels, width):
        widths = [read(width) if told_width is None else told_width for told_width, _ in tanks]
        return sum(read(level) * wide for level, wide in zip(levels, widths))

    def state(self, bench):
        return [bench.levels(), bench.water(), bench.ended, len(bench), bench.script().tanks, bench.script().steps]

    def check_refused(self, error, value, bench, *arguments):
        """That a call is refused, by position and by name, and that the bench stands as it stood."""
        before = self.state(bench)
        self.check_error(error, value, bench, *arguments)
        self.check_error(error, value, bench, step=arguments[0])
        self.assertEqual(self.state(bench), before)


class Led(BenchChecks):
    def test_told_bench(self):
        bench = Bench(TANKS, (4, 1))
        self.assertEqual([bench.levels(), bench.water(), bench.ended, len(bench)], [[(2, 1), (3, 2)], (10, 1), None, 0])
        self.assertIs(bench(("open", [0, 1])), False)
        self.assertEqual(bench.levels(), [(5, 3), (5, 3)])
        self.assertIs(bench(step=("pour", 0, 1)), False)
        self.assertEqual([bench.levels(), bench.water()], [[(13, 6), (5, 3)], (11, 1)])
        self.assertIs(bench(("unless", 1, 0)), False)
        self.assertIs(bench.ended, None)
        self.assertIs(bench(("unless", 0, 1)), True)
        self.assertEqual([bench.ended, len(bench), bench.levels()], [3, 4, [(13, 6), (5, 3)]])

    def test_arguments_by_name(self):
        bench = Bench(width=(1, 3), tanks=THREE)
        bench(step=("open", [1, 2]))
        self.check_bench(bench, THREE, [("open", [1, 2])], (1, 3))
        self.assertIsInstance(vars(Bench)["ended"], property)
        with self.assertRaises(AttributeError):
            bench.ended = 3

    def test_one_tank_alone(self):
        bench, steps = Bench([(None, 5)], (3, 2)), []
        self.assertEqual([bench.levels(), bench.water()], [[(10, 3)], (5, 1)])
        for step in [("pour", 0, 0), ("scoop", 0, (0, 1)), ("scoop", 0, (1, 3)), ("pour", 0, 7), ("scoop", 0, (1, 1))]:
            self.assertIs(bench(step), False)
            steps.append(step)
            self.check_bench(bench, [(None, 5)], steps, (3, 2))
        self.assertEqual([bench.levels(), bench.water()], [[(0, 1)], (0, 1)])
        for bad in [("open", [0, 1]), ("move", 0, 1, (1, 2)), ("unless", 0, 1)]:
            self.check_refused(UnknownTank, 1, bench, bad)

    def test_even_levels_do_not_end_it(self):
        bench = Bench(TANKS, (3, 1))
        self.assertEqual([bench(("unless", 0, 1)), bench(("unless", 1, 0)), bench.ended, len(bench)],
                         [False, False, None, 2])

    def test_each_kind_of_value(self):
        bench = Bench(TANKS, (4, 1))
        bench(("scoop", 1, (1, 3)))
        self.assertEqual([type(bench.levels()), type(bench.levels()[0]), type(bench.water()), type(len(bench))],
                         [list, tuple, tuple, int])
        self.assertIsInstance(bench.script(), Script)

    def test_random_benches(self):
        source = random.Random(151)
        ended = 0
        for _ in range(200):
            tanks = some_tanks(source, source.randint(2, 4), source.choice([3, 12]))
            width = told(source.choice(WIDTHS))
            bench, steps = Bench(tanks, width), []
            for word in some_words(source) + some_words(source):
                if bench.ended is None:
                    step = some_step(source, word, len(tanks))
                    ends = bench(step)
                    steps.append(step)
                    self.assertIs(ends, expected_run(tanks, steps, read(width))[0] is not None)
                    self.check_bench(bench, tanks, steps, width)
                else:
                    ended += 1
                    self.check_refused(InvalidStep, ("pour", 0, 1), bench, ("pour", 0, 1))
        self.assertGreater(ended, 20)


class Undone(BenchChecks):
    def test_nothing_to_undo(self):
        bench = Bench(TANKS, (4, 1))
        for _ in range(2):
            self.check_error(NothingToUndo, 0, bench.undo)
        self.check_bench(bench, TANKS, [], (4, 1))
        bench(("pour", 0, 1))
        self.assertIs(bench.undo(), None)
        self.check_error(NothingToUndo, 0, bench.undo)
        self.check_bench(bench, TANKS, [], (4, 1))

    def test_as_often_as_there_are_steps(self):
        steps = [("open", [0, 1, 2]), ("pour", 1, 5), ("unless", 0, 1), ("scoop", 0, (1, 2)), ("move", 0, 2, (1, 3)),
                 ("unless", 1, 0)]
        bench = Bench(THREE, (2, 1))
        self.assertEqual([bench(step) for step in steps], [False] * 5 + [True])
        for many in range(5, -1, -1):
            self.assertIs(bench.undo(), None)
            self.check_bench(bench, THREE, steps[:many], (2, 1))
        self.check_error(NothingToUndo, 0, bench.undo)

    def test_one_that_has_ended_goes_on_when_taken_back(self):
        bench = Bench(TANKS, (4, 1))
        self.assertIs(bench(("unless", 0, 1)), True)
        self.check_refused(InvalidStep, ("open", [0, 1]), bench, ("open", [0, 1]))
        bench.undo()
        self.assertEqual([bench.ended, len(bench)], [None, 0])
        self.assertEqual([bench(("open", [0, 1])), bench(("unless", 0, 1)), bench(("pour", 1, 4))], [False] * 3)
        self.assertIs(bench(("unless", 1, 0)), True)
        self.check_bench(bench, TANKS, [("open", [0, 1]), ("unless", 0, 1), ("pour", 1, 4), ("unless", 1, 0)], (4, 1))
        bench.undo()
        self.assertIs(bench(("unless", 0, 1)), False)

    def test_led_at_random_with_undo_between(self):
        source = random.Random(152)
        undone = 0
        for _ in range(60):
            tanks = some_tanks(source, source.randint(2, 4))
            width = told(source.choice(WIDTHS))
            bench, steps = Bench(tanks, width), []
            for _ in range(20):
                if source.random() < 0.4 or bench.ended is not None:
                    undone += 1
                    if steps:
                        steps.pop()
                        self.assertIs(bench.undo(), None)
                    else:
                        self.check_error(NothingToUndo, 0, bench.undo)
                else:
                    steps.append(some_step(source, source.choice(MIXED), len(tanks)))
                    bench(steps[-1])
                self.check_bench(bench, tanks, steps, width)
        self.assertGreater(undone, 200)

    def test_two_benches_by_turns(self):
        source = random.Random(153)
        tanks = copy.deepcopy(THREE)
        benches, lists = [Bench(tanks, (3, 1)), Bench(tanks, (1, 2)), Bench(tanks, (3, 1))], [[], [], []]
        for _ in range(60):
            k = source.randrange(3)
            if lists[k] and (source.random() < 0.3 or benches[k].ended is not None):
                benches[k].undo()
                lists[k].pop()
            else:
                lists[k].append(some_step(source, source.choice(MIXED), 3))
                benches[k](lists[k][-1])
            for bench, steps, width in zip(benches, lists, [(3, 1), (1, 2), (3, 1)]):
                self.check_bench(bench, THREE, steps, width)


class Water(BenchChecks):
    def test_what_was_put_in_less_what_was_scooped_out(self):
        source = random.Random(154)
        for _ in range(80):
            tanks, width = some_tanks(source, source.randint(2, 4)), source.choice(WIDTHS)
            bench, amount = Bench(tanks, told(width)), Fraction(sum(held for _, held in tanks))
            for word in source.choices(["open", "pour", "scoop", "move", "scoop"], k=8):
                step = some_step(source, word, len(tanks))
                if word == "pour":
                    amount += step[2]
                if word == "scoop":
                    wide = tanks[step[1]][0] or width
                    amount -= read(bench.levels()[step[1]]) * wide * read(step[2])
                bench(step)
                self.assertEqual(bench.water(), told(amount))

    def test_it_is_kept(self):
        bench = Bench(THREE, (7, 3))
        for step in [("open", [0, 1]), ("move", 1, 2, (5, 6)), ("open", [0, 1, 2]), ("unless", 0, 2), ("pour", 2, 0)]:
            bench(step)
            self.assertEqual(bench.water(), (10, 1))
        bench(("scoop", 2, (1, 2)))
        self.assertEqual(bench.water(), told(10 - Fraction(10) / (3 + Fraction(7, 3)) / 2))


class Equal(BenchChecks):
    def test_equal(self):
        one, other = Bench(TANKS, (4, 1)), Bench(list(TANKS), (4, 1))
        self.assertTrue(one == other)
        self.assertFalse(one != other)
        self.assertTrue(one == one)
        one(("open", [0, 1]))
        self.assertFalse(one == other)
        self.assertTrue(one != other)
        other(("open", [0, 1]))
        self.assertTrue(one == other)
        other(("pour", 0, 0))
        self.assertFalse(one == other)
        other.undo()
        self.assertTrue(one == other)
        one.undo()
        other.undo()
        self.assertTrue(one == other == Bench(TANKS, (4, 1)))

    def test_not_equal(self):
        bench = Bench(TANKS, (4, 1))
        for other in [Bench(TANKS, (4, 3)), Bench(TANKS, (1, 4)), Bench(TANKS[::-1], (4, 1)), Bench(THREE, (4, 1)),
                      Bench([(2, 4), (None, 5)], (4, 1)), Bench([(None, 4), (2, 6)], (4, 1))]:
            self.assertFalse(bench == other)
            self.assertTrue(bench != other)
        # The same levels by other steps.
        one, other = Bench(TANKS, (4, 1)), Bench(TANKS, (4, 1))
        one(("pour", 0, 1))
        one(("pour", 0, 2))
        other(("pour", 0, 3))
        self.assertEqual(one.levels(), other.levels())
        self.assertFalse(one == other)

    def test_not_equal_to_anything_else(self):
        bench = Bench(TANKS, (4, 1))
        for other in (None, 0, True, "", [], (), TANKS, (TANKS, (4, 1)), bench.script(), Script(TANKS, []), Bench,
                      object(), {}):
            self.assertFalse(bench == other)
            self.assertFalse(other == bench)
            self.assertTrue(bench != other)


class Kept(BenchChecks):
    def test_what_is_passed_is_not_kept(self):
        tanks, step = copy.deepcopy(THREE), ("open", [0, 1])
        bench = Bench(tanks, (4, 1))
        bench(step)
        tanks.append((1, 1))
        step[1].append(2)
        self.check_bench(bench, THREE, [("open", [0, 1])], (4, 1))

    def test_what_is_returned_is_new(self):
        bench = Bench(THREE, (4, 1))
        bench(("open", [0, 1, 2]))
        self.check_new([bench.levels(), bench.levels(), bench.script().steps, bench.script().steps], [])
        plan = bench.script()
        for part in lists_in([bench.levels(), plan.tanks, plan.steps, plan[0]]):
            part.append(7)
        self.check_bench(bench, THREE, [("open", [0, 1, 2])], (4, 1))

    def test_a_told_script_does_not_change(self):
        bench = Bench(THREE, (4, 1))
        bench(("open", [0, 1]))
        plan = bench.script()
        bench(("pour", 0, 1))
        bench.undo()
        bench.undo()
        self.assertEqual(plan.steps, [("open", [0, 1])])
        self.assertEqual(bench.script().steps, [])


class Wrong(BenchChecks):
    def test_tanks(self):
        for bad in NO_TANKS:
            self.check_error(InvalidTank, bad, Bench, [bad], (1, 1))
            self.check_error(InvalidTank, bad, Bench, width=(2, 4), tanks=TANKS + [bad, (0, 0)])
        for tanks in ([], [(1, 1)], [(None, 1), (None, 1)], [(None, 1), (2, 1), (None, 0)]):
            self.check_error(InvalidTank, None, Bench, tanks, (1, 1))
            self.check_error(InvalidTank, None, Bench, tanks, (0, 1))

    def test_widths(self):
        for bad in NO_WIDTHS:
            self.check_error(InvalidFraction, bad, Bench, TANKS, bad)
            self.check_error(InvalidFraction, bad, Bench, width=bad, tanks=THREE)

    def test_steps(self):
        bench = Bench(THREE, (4, 1))
        bench(("open", [0, 1]))
        for bad in NO_STEPS:
            self.check_refused(InvalidStep, bad, bench, bad)
        for bad, number in STRANGE:
            self.check_refused(UnknownTank, number, bench, bad)
        for bad in NO_PARTS:
            self.check_refused(InvalidFraction, bad, bench, ("scoop", 0, bad))
            self.check_refused(InvalidFraction, bad, bench, ("move", 2, 1, bad))
            self.check_refused(UnknownTank, 3, bench, ("scoop", 3, bad))
        bench(("pour", 0, 1))
        self.check_bench(bench, THREE, [("open", [0, 1]), ("pour", 0, 1)], (4, 1))

    def test_steps_of_one_that_has_ended(self):
        bench = Bench(THREE, (4, 1))
        bench(("unless", 0, 1))
        for step in [("open", [0, 1]), ("pour", 0, 0), ("scoop", 0, (0, 1)), ("move", 0, 1, (1, 2)), ("unless", 1, 0)]:
            self.check_refused(InvalidStep, step, bench, step)
        # What is none is told ahead of that.
        self.check_refused(InvalidStep, ("open", [0]), bench, ("open", [0]))
        self.check_refused(UnknownTank, 3, bench, ("pour", 3, 1))
        self.check_refused(InvalidFraction, (3, 2), bench, ("scoop", 0, (3, 2)))
        self.assertEqual([bench.ended, len(bench)], [0, 1])


class Bounds(BenchChecks):
    def test_twenty_tanks_and_sixty_steps(self):
        source = random.Random(155)
        for width in [(1, 1), (10 ** 15, 10 ** 15 - 1), (1, 10 ** 15), (10 ** 15, 1), (617, 1000)]:
            tanks = some_tanks(source, 20, 1000)
            bench, steps = Bench(tanks, width), []
            while len(steps) < 60:
                step = some_step(source, source.choice(MIXED), 20, 1000, 1000)
                steps.append(step)
                if bench(step):
                    self.check_bench(bench, tanks, steps, width)
                    bench.undo()
                    steps.pop()
                if len(steps) % 12 == 0:
                    self.check_bench(bench, tanks, steps, width)

    def test_two_hundred_calls(self):
        source = random.Random(156)
        tanks = some_tanks(source, 20, 1000)
        bench, steps = Bench(tanks, (999, 1000)), []
        for k in range(200):
            if k % 4 == 3:
                self.check_error(UnknownTank, 20, bench, ("pour", 20, 1))
            elif k % 4 == 2 and bench.ended is None:
                self.assertEqual(len(bench), len(steps))
            elif bench.ended is None and len(steps) < 60:
                steps.append(some_step(source, source.choice(WORDS + MIXED), 20, 1000, 1000))
                bench(steps[-1])
            else:
                bench.undo()
                steps.pop()
        self.check_bench(bench, tanks, steps, (999, 1000))

    def test_valves_alone(self):
        source = random.Random(157)
        tanks = some_tanks(source, 20, 1000)
        steps = [some_step(source, word, 20, 1000) for word in ["open"] * 59] + [("scoop", 3, some_part(source, 1000))]
        bench = Bench(tanks, (10 ** 15 - 1, 10 ** 15))
        for step in steps:
            self.assertIs(bench(step), False)
        self.check_bench(bench, tanks, steps, (10 ** 15 - 1, 10 ** 15))


if __name__ == "__main__":
    unittest.main()
