"""The whole program: what its modules tell of one script, or of scripts that belong together, fits together."""

import random
import unittest
from fractions import Fraction

from checking import Checks
from oracle import read, told
from streams import ALL, PLAIN, WIDTHS, lively_scripts, some_script, some_step, some_words
from test_guesses import LOOKS, some_known, some_looks
from test_ways import CHAIN, EVEN, HALT, NARROW
from valvelevels.benches import Bench
from valvelevels.changes import alike, first_unlike, least_sets, may_exchange, needless, unlike
from valvelevels.choices import advice, best, choose, fewest
from valvelevels.gauges import Gauge
from valvelevels.guesses import fitting, tells_most, told_back
from valvelevels.limits import from_where, great, great_way, small, small_way
from valvelevels.papers import claim_polynomial, judge_paper, paper
from valvelevels.places import compare, has, same, sign, simplest, united, without
from valvelevels.polynomials import plain, times
from valvelevels.readings import read_polynomial, read_script
from valvelevels.scripts import Script
from valvelevels.shares import enough, shares
from valvelevels.signs import above, broken, even, highest, holds, over, over_by, runs_in
from valvelevels.slopes import falling, peaks, rising, still, tells_width
from valvelevels.texts import show_polynomial, show_script
from valvelevels.ways import judge_ways, run, way_at, ways

HEIGHT = (3, 2)


def of_kind(plan, word):
    return [k for k, step in enumerate(plan.steps) if step[0] == word]


def all_answers(plan):
    """What the program tells of a script, all questions that can be asked of it at once."""
    many, last = range(len(plan.tanks)), len(plan.tanks) - 1
    found = [plan.tanks, plan.steps, plan.unknown, len(plan), ways(plan), run(plan, (7, 5)), show_script(plan)]
    found += [above(plan, 0, k) for k in many] + [even(plan, k, last) for k in many]
    found += [over(plan, k, HEIGHT) for k in many] + [highest(plan, k) for k in many]
    found += [runs_in(plan, index, k) for index in of_kind(plan, "open") for k in many]
    found += [over_by(plan, index) for index in of_kind(plan, "unless")]
    found += [holds(plan, ("not above", 0, last)), broken(plan, ("even", 0, last))]
    found += [needless(plan), least_sets(plan), [may_exchange(plan, k) for k in range(len(plan) - 1)]]
    found += [small(plan), great(plan), small_way(plan), great_way(plan), from_where(plan)]
    found += [call(plan, k) for call in (rising, falling, still, peaks) for k in many]
    found += [fitting(plan, [(0, word, last)]) for word in LOOKS]
    found += [tells_most([plan], [ALL], 0, last), best([plan, HALT], 0), fewest([plan, EVEN], 0)]
    found += [choose([HALT, plan], [ALL], 0), advice([plan], [ALL], plan, 0, last, 0)]
    if not of_kind(plan, "unless"):
        found += [claim_polynomial(plan, ("above", 0, last)), [shares(plan, k) for k in many]]
        found += [tells_width(plan, 0), [enough(plan, index, 0, HEIGHT) for index in of_kind(plan, "pour")]]
    return found


def led_bench(plan, width):
    """A bench that was led by all steps of a script that it came to."""
    bench = Bench(plan.tanks, width)
    for step in plan.steps:
        if bench.ended is None:
            bench(step)
    return bench


def led_gauge(plan, known, width):
    """A gauge that was led by the steps of a script that are done at a width, with what is seen there of each stop."""
    gauge, ended = Gauge(plan.tanks, known), run(plan, width)[0]
    for index, step in enumerate(plan.steps):
        if step[0] == "unless":
            gauge.stop(step[1], step[2], ended == index)
        else:
            gauge(step)
        if ended == index:
            break
    return gauge


def some_plans(source, many, rooted=0):
    plans = [some_script(source, some_words(source), source.randint(2, 4), source.choice([3, 12]))
             for _ in range(many - rooted)]
    return plans + lively_scripts(source, rooted, rooted // 2)


class OneScript(Checks):
    def test_runs_ways_benches_and_gauges(self):
        source = random.Random(181)
        for plan in [CHAIN, HALT, EVEN, NARROW] + some_plans(source, 60, 25):
            listed = ways(plan)
            self.assertTrue(judge_ways(plan, listed))
            for width in [told(width) for width in source.sample(WIDTHS, 4)]:
                index, levels = run(plan, width)
                bench, gauge = led_bench(plan, width), led_gauge(plan, [ALL], width)
                self.assertEqual(way_at(listed, width), (index, levels))
                self.assertEqual([bench.ended, bench.levels()], [index, levels])
                widths, = [widths for at, _, widths in listed if at == index]
                self.assertTrue(same(gauge.widths(), widths))
                self.assertTrue(gauge.script() == bench.script())
                self.assertTrue(has(widths, width))
                self.check_gauge(plan, gauge, source)

    def check_gauge(self, plan, gauge, source):
        """That a gauge tells of the widths that are left what the sets of its script tell of them."""
        one, other = source.randrange(len(plan.tanks)), source.randrange(len(plan.tanks))
        left = gauge.widths()
        outside = without([ALL], left)
        for word, found in zip(LOOKS, [above(plan, one, other), even(plan, one, other), above(plan, other, one)]):
            inside = without(found, outside)
            self.assertEqual(word in gauge.may_see(one, other), inside != [])
            expected = True if same(inside, left) else None if inside else False
            self.assertIs(gauge.sure((word, one, other)), expected)
        higher = without(over(plan, one, HEIGHT), outside)
        expected = True if not higher else False if same(higher, left) else None
        self.assertIs(gauge.sure(("not over", one, HEIGHT)), expected)

    def test_looks_and_what_fits(self):
        source = random.Random(182)
        for plan in some_plans(source, 60, 25):
            seen, known = some_looks(source, plan), some_known(source, plan)
            found = without(fitting(plan, seen), without([ALL], known))
            for width in WIDTHS:
                if has(found, told(width)):
                    way, = [widths for index, _, widths in ways(plan) if has(widths, told(width))]
                    gauge = led_gauge(plan, known, told(width))
                    for look in seen:
                        gauge.see(*look)
                    self.assertTrue(same(gauge.widths(), without(found, without([ALL], way))))
            self.assertTrue(same(told_back([plan, plan], [seen, seen[:1]]), fitting(plan, seen)))

    def test_advice_is_what_to_choose_behind_a_look(self):
        source = random.Random(183)
        for _ in range(15):
            plans = some_plans(source, 3, 2)
            look, known = source.choice(plans), united(some_known(source, *plans))
            one, other = source.randrange(len(look.tanks)), source.randrange(len(look.tanks))
            expected = []
            for word in LOOKS:
                left = without(known, without([ALL], fitting(look, [(one, word, other)])))
                if left:
                    expected.append((word, choose(plans, left, 0)))
            self.assertEqual(advice(plans, known, look, one, other, 0), expected)
            numbers = [len(advice(plans, known, plan, 0, 1, 0)) for plan in plans]
            self.assertEqual(tells_most(plans, known, 0, 1), numbers.index(max(numbers)))


class MadeAnew(Checks):
    def check_same(self, plan, others):
        expected = all_answers(plan)
        for other in others:
            self.assertTrue(other == plan)
            self.assertEqual(all_answers(other), expected)
            self.assertTrue(alike(plan, other))
            self.assertEqual([unlike(other, plan), first_unlike(plan, other)], [[], None])
        # Neither these questions nor the scripts that were made of it changed it.
        self.assertEqual(all_answers(plan), expected)

    def test_scripts_that_were_read_told_or_changed(self):
        source = random.Random(184)
        for plan in [CHAIN, HALT, NARROW, Script([(None, 3)], [])] + some_plans(source, 16, 8):
            afresh = Script(plan.tanks, plan.steps)
            others = [read_script(show_script(plan)), plan]
            if len(plan) > 1:
                others.append(plan.exchanged(0).exchanged(0))
            others.append(Script(plan.tanks, plan.steps + [("pour", 0, 1)]).without(len(plan)))
            bench = Bench(plan.tanks, (1, 1))
            gauge = Gauge(plan.tanks, [ALL])
            for step in plan.steps:
                if bench.ended is None:
                    bench(step)
                    if step[0] == "unless":
                        gauge.stop(step[1], step[2], bench.ended is not None)
                    else:
                        gauge(step)
            for told_script in (bench.script(), gauge.script()):
                if len(told_script) == len(plan):
                    others.append(told_script)
            self.check_same(afresh, others)

    def test_one_that_was_led_on_and_taken_back(self):
        source = random.Random(185)
        for plan in some_plans(source, 12, 4):
            bench, twin = led_bench(plan, (3, 2)), led_bench(plan, (3, 2))
            gauge, other = led_gauge(plan, [ALL], (3, 2)), led_gauge(plan, [ALL], (3, 2))
            for _ in range(len(bench)):
                bench.undo()
                gauge.undo()
            self.assertTrue(bench == Bench(plan.tanks, (3, 2)))
            self.assertTrue(gauge == Gauge(plan.tanks, [ALL]))
            for step in twin.script().steps:
                ends = bench(step)
                if step[0] == "unless":
                    gauge.stop(step[1], step[2], ends)
                else:
                    gauge(step)
            self.assertTrue(bench == twin)
            self.assertTrue(gauge == other)
            self.check_same(twin.script(), [bench.script(), gauge.script()])


class Alike(Checks):
    def levels(self, plan):
        """What is told of levels, not of steps."""
        many = range(len(plan.tanks))
        return [[above(plan, 0, k) for k in many], [even(plan, k, 0) for k in many],
                [over(plan, k, HEIGHT) for k in many],
                [call(plan, k) for call in (rising, falling, still) for k in many]]

    def check_alike(self, one, other):
        for mine, yours in zip(self.levels(one), self.levels(other)):
            for told_set, told_other in zip(mine, yours):
                self.assertTrue(same(told_set, told_other))
        many = range(len(one.tanks))
        self.assertEqual([highest(one, k) for k in many], [highest(other, k) for k in many])
        self.assertEqual([small(one), great(one)], [small(other), great(other)])
        for tank in many:
            turns, others = peaks(one, tank), peaks(other, tank)
            self.assertEqual([compare(*pair) for pair in zip(turns, others)], [0] * max(len(turns), len(others)))
        self.assertTrue(all(same(*pair) for pair in zip(best([one, HALT], 0), best([other, HALT], 0))))
        for found in best([one, other], 0):
            self.assertEqual(found, [ALL])
        for word in LOOKS:
            self.assertTrue(same(fitting(one, [(0, word, 1)]), fitting(other, [(0, word, 1)])))

    def test_alike_scripts(self):
        source = random.Random(186)
        for plan in some_plans(source, 30, 15):
            for index in needless(plan):
                self.check_alike(plan, plan.without(index))
            for chosen in least_sets(plan)[:1]:
                self.check_alike(plan, Script(plan.tanks, [plan[k] for k in chosen]))
            for index in range(len(plan) - 1):
                if may_exchange(plan, index):
                    self.check_alike(plan, plan.exchanged(index))

    def test_needless_steps_exchanges_and_least_sets_by_runs(self):
        source = random.Random(187)
        for plan in some_plans(source, 60, 20):
            for index in range(len(plan)):
                self.check_runs(plan, plan.without(index), index in needless(plan))
            for index in range(len(plan) - 1):
                self.check_runs(plan, plan.exchanged(index), may_exchange(plan, index))
            for chosen in least_sets(plan):
                self.check_runs(plan, Script(plan.tanks, [plan[k] for k in chosen]), True)

    def check_runs(self, one, other, are_alike):
        for width in WIDTHS:
            if are_alike:
                self.assertEqual(run(one, told(width))[1], run(other, told(width))[1])
        place = first_unlike(one, other)
        self.assertIs(place is None, are_alike)
        if place is not None and place[0] != "root":
            self.assertNotEqual(run(one, place)[1], run(other, place)[1])


class Papers(Checks):
    def check_paper(self, told_one, higher):
        """That a polynomial has a paper just where it is above 0 at all widths, and return whether it has one."""
        found = paper(told_one, "above")
        self.assertEqual(found is not None, higher == [ALL])
        for stretch in higher:
            self.assertEqual(sign(told_one, simplest(stretch)), 1)
        for stretch in without([ALL], higher):
            self.assertLess(sign(told_one, simplest(stretch)), 1)
        if found is None:
            return False
        self.assertEqual(found[0], plain(told_one))
        self.assertEqual([judge_paper(told_one, word, found) for word in ("above", "below")], [True, False])
        more = times(told_one, [1, 0, 1])
        self.assertEqual([judge_paper(more, "above", found), judge_paper(more, "above", paper(more, "above"))],
                         [False, True])
        return True

    def test_papers_claims_and_sets(self):
        source = random.Random(188)
        shown = 0
        for _ in range(200):
            plan = some_script(source, PLAIN if source.random() < 0.5 else ["open", "open", "pour", "scoop"])
            one, other = source.sample(range(4), 2)
            for claim, higher in [(("above", one, other), above(plan, one, other)),
                                  (("not over", one, HEIGHT), over(plan, one, HEIGHT))]:
                told_one = claim_polynomial(plan, claim)
                if told_one:
                    shown += self.check_paper(told_one, higher)
                else:
                    self.assertEqual(higher, [])
            self.assertIs(holds(plan, ("above", one, other)), above(plan, one, other) == [ALL])
            self.assertIs(holds(plan, ("not over", one, HEIGHT)), over(plan, one, HEIGHT) == [])
        self.assertGreater(shown, 20)

    def test_polynomials_shown_and_read(self):
        source = random.Random(194)
        for _ in range(40):
            told_one = claim_polynomial(some_script(source, ["open", "pour", "scoop"], 3, 6), ("even", 0, 1))
            self.assertEqual(read_polynomial(show_polynomial(told_one)), told_one)


def grown(plan, times_as_great):
    """The same script with all amounts some times as great."""
    return Script([(width, amount * times_as_great) for width, amount in plan.tanks],
                  [step[:2] + (step[2] * times_as_great,) if step[0] == "pour" else step for step in plan.steps])


def renumbered(plan, order):
    """The same script with its tanks in another order: the tank with number k stands at order[k]."""
    tanks = [None] * len(order)
    for k, tank in enumerate(plan.tanks):
        tanks[order[k]] = tank
    return Script(tanks, [renumbered_step(step, order) for step in plan.steps])


def renumbered_step(step, order):
    if step[0] == "open":
        return ("open", sorted(order[k] for k in step[1]))
    if step[0] in ("pour", "scoop"):
        return (step[0], order[step[1]], step[2])
    return (step[0], order[step[1]], order[step[2]]) + step[3:]


class InProportion(Checks):
    def by(self, height, many):
        return None if height is None else told(read(height) * many)

    def test_amounts_some_times_as_great(self):
        source = random.Random(189)
        plans = some_plans(source, 30, 15)
        for plan in plans:
            many = source.randint(2, 5)
            other, tanks = grown(plan, many), range(len(plan.tanks))
            for width in [told(width) for width in source.sample(WIDTHS, 3)]:
                index, levels = run(plan, width)
                self.assertEqual(run(other, width), (index, [self.by(level, many) for level in levels]))
                self.assertEqual(led_bench(other, width).water(), self.by(led_bench(plan, width).water(), many))
                self.assertTrue(same(led_gauge(other, [ALL], width).widths(), led_gauge(plan, [ALL], width).widths()))
            for k in tanks:
                pairs = [(above(plan, 0, k), above(other, 0, k)), (even(plan, 0, k), even(other, 0, k)),
                         (over(plan, k, HEIGHT), over(other, k, self.by(HEIGHT, many)))]
                pairs += [(call(plan, k), call(other, k)) for call in (rising, falling, still)]
                pairs += [(fitting(plan, [(0, word, k)]), fitting(other, [(0, word, k)])) for word in LOOKS]
                self.assertTrue(all(same(*pair) for pair in pairs))
                height, reached = highest(plan, k)
                self.assertEqual(highest(other, k), (self.by(height, many), reached))
            self.assertEqual(small(other), [self.by(level, many) for level in small(plan)])
            self.assertEqual(great(other), [self.by(level, many) for level in great(plan)])
            self.assertEqual([needless(other), least_sets(other)], [needless(plan), least_sets(plan)])
            if not of_kind(plan, "unless"):
                self.assertEqual([shares(other, k) for k in tanks], [shares(plan, k) for k in tanks])
        for k in range(0, 30, 3):
            chosen, others = plans[k:k + 3], [grown(plan, 3) for plan in plans[k:k + 3]]
            self.assertTrue(all(same(*pair) for pair in zip(best(chosen, 0), best(others, 0))))
            self.assertEqual(fewest(chosen, 1), fewest(others, 1))

    def test_tanks_in_another_order(self):
        source = random.Random(190)
        for plan in some_plans(source, 30, 15):
            tanks = range(len(plan.tanks))
            order = source.sample(tanks, len(tanks))
            other = renumbered(plan, order)
            self.assertEqual(other.unknown, order[plan.unknown])
            for width in [told(width) for width in source.sample(WIDTHS, 3)]:
                index, levels = run(plan, width)
                at, others = run(other, width)
                self.assertEqual([at, [others[order[k]] for k in tanks]], [index, levels])
                self.assertEqual(led_bench(other, width).water(), led_bench(plan, width).water())
                gauge, twin = led_gauge(plan, [ALL], width), led_gauge(other, [ALL], width)
                self.assertTrue(same(gauge.widths(), twin.widths()))
                self.assertEqual(gauge.may_see(0, 1), twin.may_see(order[0], order[1]))
            self.check_sets(plan, other, order)
            self.assertEqual([small(other)[order[k]] for k in tanks], small(plan))
            self.assertEqual([great(other)[order[k]] for k in tanks], great(plan))
            self.assertEqual([needless(other), least_sets(other)], [needless(plan), least_sets(plan)])
            self.assertEqual([small_way(other), great_way(other)], [small_way(plan), great_way(plan)])
            if not of_kind(plan, "unless"):
                self.check_shares(plan, other, order)

    def check_sets(self, plan, other, order):
        for k in range(len(order)):
            pairs = [(above(plan, 0, k), above(other, order[0], order[k])),
                     (even(plan, 0, k), even(other, order[0], order[k])),
                     (over(plan, k, HEIGHT), over(other, order[k], HEIGHT))]
            pairs += [(call(plan, k), call(other, order[k])) for call in (rising, falling, still)]
            pairs += [(runs_in(plan, index, k), runs_in(other, index, order[k])) for index in of_kind(plan, "open")]
            self.assertTrue(all(same(*pair) for pair in pairs))
            self.assertEqual(highest(plan, k), highest(other, order[k]))
        for index in of_kind(plan, "unless"):
            self.assertTrue(same(over_by(plan, index), over_by(other, index)))

    def check_shares(self, plan, other, order):
        many = len(order)
        for k in range(many):
            mine, yours = shares(plan, k), shares(other, order[k])
            self.assertEqual([yours[order[j]] for j in range(many)] + yours[many:], mine)
            for index in of_kind(plan, "pour"):
                self.assertEqual(enough(plan, index, k, HEIGHT), enough(other, index, order[k], HEIGHT))


class Guarantees(Checks):
    def test_levels_and_water(self):
        source = random.Random(191)
        for plan in some_plans(source, 60, 20):
            put_in = sum(amount for _, amount in plan.tanks) + sum(step[2] for step in plan.steps if step[0] == "pour")
            for k, (width, _) in enumerate(plan.tanks):
                height, _ = highest(plan, k)
                if width is not None and height is not None:
                    self.assertLessEqual(read(height), Fraction(put_in, width))
            self.assertEqual(great(plan)[plan.unknown], (0, 1))
            if not [step for step in plan.steps if step[0] in ("scoop", "unless")]:
                for width in source.sample(WIDTHS, 3):
                    self.assertEqual(led_bench(plan, told(width)).water(), (put_in, 1))

    def test_a_level_is_the_sum_of_amounts_times_shares(self):
        source = random.Random(192)
        for _ in range(30):
            plan = some_script(source, PLAIN)
            amounts = [amount for _, amount in plan.tanks] + [step[2] for step in plan.steps if step[0] == "pour"]
            for tank in range(4):
                listed = [(None, [form], [ALL]) for form in shares(plan, tank)]
                for width in source.sample(WIDTHS, 4):
                    parts = [read(way_at([way], told(width))[1][0]) for way in listed]
                    level = sum(amount * part for amount, part in zip(amounts, parts))
                    self.assertEqual(run(plan, told(width))[1][tank], told(level))
                    self.assertTrue(all(part >= 0 for part in parts))

    def test_so_many_told_widths_decide(self):
        source = random.Random(193)
        for _ in range(60):
            one = some_script(source, PLAIN, 3, 3)
            for other in [Script(one.tanks, source.sample(one.steps, 6)),
                          Script(one.tanks, [some_step(source, step[0], 3, 3) for step in one.steps])]:
                opens = [step for step in one.steps + other.steps if step[0] == "open" and one.unknown in step[1]]
                widths = [(k, 1) for k in range(1, len(opens) + 2)]
                agree = all(run(one, width) == run(other, width) for width in widths)
                self.assertIs(alike(one, other), agree)
                if not agree:
                    self.assertIn(first_unlike(one, other), widths)


if __name__ == "__main__":
    unittest.main()
