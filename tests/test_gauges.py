"""Gauges that are led by steps, looks and stops that are seen at a hidden width, held against runs at many widths."""

import copy
import random
import unittest
from fractions import Fraction

from oracle import lists_in, product, root, told
from streams import (
    ALL, WIDTHS, beside, converted, done, ends_of, is_told_well, number_at, sign_of, some_step, some_tanks)
from test_guesses import BELOW, BEYOND, LOOKS, NO_RANGES, OVERLAPPING, SIGNS, THREE, some_known
from test_scripts import NO_PARTS, NO_STEPS, NO_TANKS, STRANGE
from test_signs import SIGNS as CLAIMS
from test_signs import SetChecks, sign_in
from test_ways import HIGH, LOW, POINTS
from valvelevels.errors import (
    InvalidClaim, InvalidFraction, InvalidRange, InvalidStep, InvalidTank, NothingToUndo, UnknownTank)
from valvelevels.gauges import Gauge
from valvelevels.places import has, places, same, simplest, without
from valvelevels.scripts import Script
from valvelevels.ways import run

TANKS = [(2, 4), (None, 6)]
FOUR = [(1, 6), (None, 0), (1, 0), (1, 1)]
WHOLE = [ALL]


def rooted():
    """A gauge whose tanks 2 and 3 are even at LOW and HIGH alone."""
    gauge = Gauge(FOUR, WHOLE)
    gauge(("open", [0, 1]))
    gauge(("open", [1, 2]))
    return gauge


def word_of(sign):
    return ["even", "above", "below"][sign]


class Story:
    """What was done with a gauge and seen of it, so that it can be told at each width whether it may be that one."""

    def __init__(self, tanks, known):
        self.tanks, self.known, self.acts = tanks, known, []

    def steps(self, acts=None):
        return [step for kind, step, _ in (self.acts if acts is None else acts) if kind != "see"]

    def plan(self):
        return Script(self.tanks, self.steps())

    def is_over(self):
        return any(kind == "stop" and seen for kind, _, seen in self.acts)

    def allows(self, width):
        """Whether all that was seen is so at a width of any kind, the known set let be."""
        for k, (kind, step, seen) in enumerate(self.acts):
            if kind == "see":
                levels = done(Script(self.tanks, self.steps(self.acts[:k])), width)[1]
                if sign_of(levels[step[0]] - levels[step[2]]) != SIGNS[step[1]]:
                    return False
            elif kind == "stop":
                index = len(self.steps(self.acts[:k]))
                ended = done(Script(self.tanks, self.steps(self.acts[:k + 1])), width)[0]
                if (ended == index) is not seen or ended not in (None, index):
                    return False
        return True


class GaugeChecks(SetChecks):
    def check_widths(self, gauge, story):
        found = gauge.widths()
        self.assertTrue(found)
        self.assertTrue(is_told_well(found), found)
        ends = ends_of(found, story.known)
        for width in WIDTHS + [number for end in ends for number in beside(end)]:
            expected = has(story.known, told(width)) and story.allows(width)
            self.assertEqual(has(found, told(width)), expected, (story.acts, width))
        for end in ends:
            expected = has(story.known, end) and story.allows(number_at(end))
            self.assertEqual(has(found, end), expected, (story.acts, end))
        self.assertEqual([gauge.script().tanks, gauge.script().steps], [story.tanks, story.steps()])
        self.assertEqual(len(gauge), len(story.acts))

    def spots(self, gauge):
        """Widths of any kind that are left: some, and all ends."""
        left = gauge.widths()
        spots = [told(width) for width in WIDTHS] + ends_of(left) + [simplest(stretch) for stretch in left]
        return [number_at(place) for place in spots if has(left, place)]

    def check_questions(self, gauge, one, other, height):
        """That what may be seen, and is sure, is what stands at the widths that are left."""
        plan, spots = gauge.script(), self.spots(gauge)
        seen = {word_of(sign_in(plan, ("even", one, other), width)) for width in spots}
        words = gauge.may_see(one, other)
        self.assertEqual(words, [word for word in LOOKS if word in words])
        self.assertTrue(seen <= set(words), (seen, words))
        self.assertEqual(gauge.may_see(other=other, one=one), words)
        for word in LOOKS:
            twin = copy.deepcopy(gauge)
            if word in words:
                # Where a word could be seen, some width is left with it.
                twin.see(one, word, other)
                width = number_at(simplest(twin.widths()[0]))
                self.assertEqual(word_of(sign_in(plan, ("even", one, other), width)), word)
            else:
                self.check_error(InvalidClaim, (one, word, other), twin.see, one, word, other)
        for claim in [(word, one, other) for word in ["above", "even", "below", "not above"]]:
            signs = [SIGNS[word] for word in words]
            self.check_sure(gauge, claim, [sign in CLAIMS[claim[0]] for sign in signs])
        over = [sign_in(plan, ("not over", one, height), width) in CLAIMS["not over"] for width in spots]
        self.check_height(gauge, ("not over", one, height), over)

    def check_sure(self, gauge, claim, truths):
        expected = None if len(set(truths)) > 1 else truths[0]
        self.assertIs(gauge.sure(claim), expected)
        self.assertIs(gauge.sure(claim=claim), expected)

    def check_height(self, gauge, claim, truths):
        """That a claim of a height is told as it is at all widths left, by a tank that stands as high."""
        found = gauge.sure(claim)
        self.assertIs(gauge.sure(claim=claim), found)
        if found is None or len(set(truths)) > 1:
            plan = gauge.script()
            raised = Gauge(plan.tanks + [(claim[2][1], claim[2][0])], gauge.widths())
            for step in plan.steps:
                if step[0] != "unless":
                    raised(step)
            self.assertIs(raised.sure(("not above", claim[1], len(plan.tanks))), None)
            self.assertIs(found, None)
        else:
            self.assertIs(found, truths[0])

    def state(self, gauge):
        many = range(len(gauge.script().tanks))
        looks = [gauge.may_see(one, other) for one in many for other in many]
        return [gauge.widths(), len(gauge), gauge.script().tanks, gauge.script().steps, looks]

    def check_refused(self, error, value, gauge, call, *arguments, **named):
        before, twin = self.state(gauge), copy.deepcopy(gauge)
        self.check_error(error, value, call, *arguments, **named)
        self.assertEqual(self.state(gauge), before)
        self.assertTrue(gauge == twin)


class Told(GaugeChecks):
    def test_told_gauge(self):
        gauge = Gauge(TANKS, WHOLE)
        self.assertEqual([gauge.widths(), gauge.may_see(0, 1), len(gauge)], [WHOLE, LOOKS, 0])
        self.assertIs(gauge.see(0, "above", 1), True)
        self.assertEqual(gauge.widths(), [BEYOND])
        self.assertIs(gauge.see(other=0, word="below", one=1), False)
        self.assertEqual([gauge.widths(), gauge.may_see(0, 1), gauge.may_see(1, 0)], [[BEYOND], ["above"], ["below"]])
        self.assertEqual([gauge.sure(("above", 0, 1)), gauge.sure(("not over", 1, (1, 1))),
                          gauge.sure(("not over", 1, (2, 1))), gauge.sure(("even", 0, 1))], [True, None, True, False])
        self.assertIs(gauge(step=("open", [0, 1])), None)
        self.assertEqual([gauge.may_see(0, 1), len(gauge), gauge.widths()], [["even"], 3, [BEYOND]])
        self.assertIs(gauge.stop(seen=False, other=1, one=0), False)
        self.assertEqual(gauge.script().steps, [("open", [0, 1]), ("unless", 0, 1)])

    def test_known_sets(self):
        near = root(product([1, -4, 1], [-3, 1]), 0, Fraction(1, 2))
        for known, expected in [
                (OVERLAPPING, [((1, 1), True, (5, 1), True)]), ([BELOW, THREE, BEYOND], WHOLE), ([THREE], [THREE]),
                ([BEYOND, BELOW], [BELOW, BEYOND]), ([THREE] * 3, [THREE])]:
            gauge = Gauge(known=known, tanks=TANKS)
            self.assertEqual(gauge.widths(), expected)
        self.assertTrue(same(Gauge(TANKS, POINTS).widths(), POINTS))
        self.assertEqual(len(Gauge(TANKS, [(LOW, True, LOW, True), (near, True, near, True)]).widths()), 1)

    def test_one_place(self):
        gauge = Gauge(TANKS, [THREE])
        self.assertEqual([gauge.may_see(0, 1), gauge.see(0, "even", 1), gauge.sure(("even", 1, 0)),
                          gauge.sure(("above", 1, 0)), gauge.stop(0, 1, False), gauge.widths()],
                         [["even"], False, True, False, False, [THREE]])
        self.check_refused(InvalidClaim, (0, "above", 1), gauge, gauge.see, 0, "above", 1)
        self.check_refused(InvalidStep, ("unless", 0, 1), gauge, gauge.stop, 0, 1, True)
        # At a root the levels are no fractions.
        gauge = Gauge(FOUR, [(LOW, True, LOW, True)])
        gauge(("open", [0, 1]))
        gauge(("open", [1, 2]))
        self.assertEqual([gauge.may_see(2, 3), gauge.may_see(0, 1), gauge.sure(("even", 2, 3)),
                          gauge.sure(("not over", 2, (1, 1))), gauge.sure(("not over", 0, (5, 1)))],
                         [["even"], ["above"], True, True, True])
        self.assertIs(gauge.stop(2, 3, False), False)
        self.check_refused(InvalidStep, ("unless", 0, 1), gauge, gauge.stop, 0, 1, False)
        self.check_refused(InvalidClaim, (2, "above", 3), gauge, gauge.see, 2, "above", 3)

    def test_looks_that_leave_just_a_root(self):
        gauge = rooted()
        self.assertIs(gauge.see(2, "even", 3), True)
        self.assertTrue(same(gauge.widths(), POINTS))
        # Tank 0 stands at 6 / (1 + w).
        gauge(("scoop", 3, (1, 1)))
        gauge(("pour", 3, 2))
        self.assertEqual([gauge.may_see(0, 3), gauge.sure(("above", 0, 3))], [["above", "below"], None])
        self.assertIs(gauge.see(0, "above", 3), True)
        self.assertTrue(same(gauge.widths(), POINTS[:1]))
        self.assertEqual([gauge.sure(("above", 0, 3)), gauge.may_see(0, 3), gauge.see(0, "above", 3)],
                         [True, ["above"], False])
        gauge.undo()
        gauge.undo()
        self.assertIs(gauge.see(3, "above", 0), True)
        self.assertTrue(same(gauge.widths(), POINTS[1:]))

    def test_looks_that_leave_all_widths(self):
        gauge = Gauge(TANKS, WHOLE)
        for tank in (0, 1):
            self.assertEqual(gauge.may_see(tank, tank), ["even"])
            self.assertIs(gauge.see(tank, "even", tank), False)
            self.check_refused(InvalidClaim, (tank, "above", tank), gauge, gauge.see, tank, "above", tank)
            self.check_refused(InvalidClaim, (tank, "below", tank), gauge, gauge.see, tank, "below", tank)
        self.assertEqual([gauge.widths(), len(gauge)], [WHOLE, 2])

    def test_stops(self):
        for seen, expected in [(True, [BEYOND]), (False, [((0, 1), False, (3, 1), True)])]:
            gauge = Gauge(TANKS, WHOLE)
            self.assertIs(gauge.stop(0, 1, seen), True)
            self.assertEqual([gauge.widths(), len(gauge), gauge.script().steps], [expected, 1, [("unless", 0, 1)]])
            if seen:
                self.check_refused(InvalidStep, ("pour", 0, 1), gauge, gauge, ("pour", 0, 1))
                self.check_refused(InvalidStep, ("unless", 1, 0), gauge, gauge.stop, 1, 0, False)
            else:
                self.assertIs(gauge(("pour", 0, 1)), None)
                self.assertEqual(gauge.may_see(0, 1), LOOKS)

    def test_one_that_is_over_may_be_looked_at(self):
        gauge = Gauge(TANKS + [(2, 1)], WHOLE)
        gauge.stop(0, 1, True)
        self.assertEqual([gauge.may_see(0, 1), gauge.may_see(1, 2), gauge.sure(("above", 0, 2))],
                         [["above"], LOOKS, True])
        self.assertIs(gauge.see(1, "even", 2), True)
        self.assertEqual(gauge.widths(), [((12, 1), True, (12, 1), True)])
        self.assertEqual([gauge.sure(("not over", 1, (1, 2))), gauge.sure(("not over", 1, (1, 3)))], [True, False])
        self.check_refused(InvalidStep, ("pour", 0, 0), gauge, gauge, ("pour", 0, 0))
        gauge.undo()
        gauge.undo()
        self.assertEqual([gauge.widths(), len(gauge), gauge(("pour", 0, 0))], [WHOLE, 0, None])

    def test_one_tank_alone(self):
        gauge = Gauge([(None, 6)], [((2, 1), False, (3, 1), True)])
        gauge(("scoop", 0, (1, 2)))
        self.assertEqual([gauge.may_see(0, 0), gauge.sure(("not over", 0, (3, 2))), gauge.sure(("not over", 0, (1, 1))),
                          gauge.sure(("not over", 0, (11, 10))), gauge.sure(("even", 0, 0))],
                         [["even"], True, None, None, True])
        self.check_refused(UnknownTank, 1, gauge, gauge.stop, 0, 1, True)
        self.check_refused(InvalidStep, ("unless", 0, 0), gauge, gauge.stop, 0, 0, False)


class Undone(GaugeChecks):
    def test_each_kind(self):
        gauge = Gauge(TANKS, WHOLE)
        states = []
        for call, arguments in [
                (gauge, (("pour", 0, 2),)), (gauge.see, (0, "below", 1)), (gauge.stop, (0, 1, False)),
                (gauge, (("scoop", 1, (1, 2)),)), (gauge.see, (0, "above", 1)), (gauge.stop, (0, 1, True)),
                (gauge.see, (0, "above", 1))]:
            states.append(self.state(gauge))
            call(*arguments)
        for before in states[::-1]:
            self.assertIs(gauge.undo(), None)
            self.assertEqual(self.state(gauge), before)
        for _ in range(2):
            self.check_refused(NothingToUndo, 0, gauge, gauge.undo)
        self.assertTrue(gauge == Gauge(TANKS, WHOLE))

    def test_two_gauges_by_turns(self):
        tanks, known = copy.deepcopy(TANKS), copy.deepcopy(WHOLE)
        one, other = Gauge(tanks, known), Gauge(tanks, known)
        one(("open", [0, 1]))
        self.assertEqual([other.may_see(0, 1), one.may_see(0, 1)], [LOOKS, ["even"]])
        other.see(0, "above", 1)
        self.assertEqual([one.widths(), other.widths()], [WHOLE, [BEYOND]])
        one.undo()
        self.assertEqual([one.may_see(0, 1), other.may_see(0, 1)], [LOOKS, ["above"]])
        self.check_refused(InvalidStep, ("unless", 1, 0), other, other.stop, 1, 0, True)
        self.assertIs(one.stop(1, 0, True), True)
        other.undo()
        self.check_error(NothingToUndo, 0, other.undo)
        self.assertEqual([one.widths(), other.widths()], [[BELOW], WHOLE])


class Hidden(GaugeChecks):
    def act(self, source, gauge, story, width):
        """Do a step, a look or a stop, as it goes at the hidden width; what is returned is as it must be."""
        many, before = len(story.tanks), gauge.widths()
        one, other = source.randrange(many), source.randrange(many)
        levels = done(story.plan(), width)[1]
        sign = sign_of(levels[one] - levels[other])
        kind = source.choice(["step", "step", "see", "stop"])
        opens = [step[0] for step in story.steps()]
        if kind == "see":
            fewer = gauge.see(one, word_of(sign), other)
            story.acts.append((kind, (one, word_of(sign), other), None))
            self.assertIs(fewer, without(before, gauge.widths()) != [])
        elif kind == "stop" and one != other and not story.is_over() and opens.count("unless") < 2:
            fewer = gauge.stop(one, other, sign > 0)
            story.acts.append((kind, ("unless", one, other), sign > 0))
            self.assertIs(fewer, without(before, gauge.widths()) != [])
        elif not story.is_over() and len(opens) < 6:
            words = ["open", "open", "pour", "scoop", "move"][2 if opens.count("open") > 3 else 0:]
            step = some_step(source, source.choice(words), many)
            self.assertIs(gauge(step), None)
            story.acts.append(("step", step, None))
            self.assertEqual(gauge.widths(), before)
        self.assertEqual(without(gauge.widths(), before), [])

    def test_led_at_a_hidden_width(self):
        source = random.Random(161)
        lengths = {}
        for _ in range(60):
            tanks = some_tanks(source, source.randint(2, 4), source.choice([3, 12]))
            width = source.choice(WIDTHS)
            known = some_known(source) + [(told(width), True, told(width * source.choice([1, 2])), True)]
            gauge, story = Gauge(tanks, known), Story(tanks, known)
            while len(story.acts) < 8 and not (story.is_over() and source.random() < 0.3):
                self.act(source, gauge, story, width)
                if source.random() < 0.2 and story.acts:
                    self.assertIs(gauge.undo(), None)
                    story.acts.pop()
                if source.random() < 0.4:
                    self.check_widths(gauge, story)
                self.assertTrue(has(gauge.widths(), told(width)))
            self.check_widths(gauge, story)
            pair = source.randrange(len(tanks)), source.randrange(len(tanks))
            self.check_questions(gauge, *pair, told(Fraction(source.randint(0, 24), source.randint(1, 12))))
            self.assertEqual(story.is_over(), run(gauge.script(), told(width))[0] is not None)
            lengths[len(gauge.widths())] = 1
        self.assertGreater(len(lengths), 2)

    def test_the_bounds(self):
        source = random.Random(162)
        for _ in range(12):
            tanks, width = some_tanks(source, 4), source.choice(WIDTHS)
            gauge, story = Gauge(tanks, WHOLE), Story(tanks, WHOLE)
            for _ in range(60):
                if len(story.acts) < 12:
                    self.act(source, gauge, story, width)
                elif source.random() < 0.5:
                    gauge.undo()
                    story.acts.pop()
                else:
                    self.check_refused(InvalidStep, ("unless", 1, 1), gauge, gauge.stop, 1, 1, True)
            self.check_widths(gauge, story)
            self.check_questions(gauge, 0, 1, (10 ** 15, 10 ** 15 - 1))

    def test_thirty_ranges(self):
        source = random.Random(163)
        spots = []
        while len(spots) < 6:
            spots += places([source.randint(-10 ** 6, 10 ** 6) for _ in range(7)] + [1])
        known = [(told(Fraction(k, 7)), False, told(Fraction(k, 6)), True) for k in range(1, 19)]
        known = [(place, True, place, True) for place in spots[:6] * 2] + known
        self.assertEqual(len(known), 30)
        gauge, story = Gauge(TANKS, known), Story(TANKS, known)
        self.check_widths(gauge, story)
        for act in [("step", ("pour", 1, 1), None), ("see", (0, "below", 1), None)]:
            if act[0] == "step":
                gauge(act[1])
            else:
                gauge.see(*act[1])
            story.acts.append(act)
            self.check_widths(gauge, story)


class Equal(GaugeChecks):
    def test_equal(self):
        one, other = Gauge(TANKS, WHOLE), Gauge(list(TANKS), [BEYOND, BELOW, THREE])
        self.assertTrue(one == other)
        self.assertFalse(one != other)
        one(("open", [0, 1]))
        self.assertFalse(one == other)
        other(("open", [0, 1]))
        self.assertTrue(one == other)
        # Looks that leave all widths, however many, make no other gauge.
        one.see(0, "even", 1)
        self.assertTrue(one == other)
        one.undo()
        one.undo()
        other.undo()
        one.see(0, "above", 1)
        self.assertFalse(one == other)
        self.assertTrue(one != other)
        self.assertTrue(one == Gauge(TANKS, [BEYOND]))
        other.see(1, "below", 0)
        self.assertTrue(one == other)

    def test_roots_told_in_two_ways(self):
        near = root(product([1, -4, 1], [-3, 1]), 0, Fraction(1, 2))
        self.assertTrue(Gauge(TANKS, [(LOW, True, LOW, True)]) == Gauge(TANKS, [(near, True, near, True)]))
        self.assertTrue(Gauge(TANKS, [(LOW, True, HIGH, False)]) == Gauge(TANKS, [(near, True, HIGH, False)]))
        self.assertFalse(Gauge(TANKS, [(LOW, True, HIGH, False)]) == Gauge(TANKS, [(near, False, HIGH, False)]))
        gauge, other = rooted(), rooted()
        gauge.see(2, "even", 3)
        self.assertFalse(gauge == other)
        other.see(3, "even", 2)
        self.assertTrue(gauge == other)

    def test_not_equal(self):
        gauge = Gauge(TANKS, WHOLE)
        for other in [Gauge(TANKS, [BEYOND]), Gauge(TANKS[::-1], WHOLE), Gauge(TANKS + [(1, 1)], WHOLE),
                      Gauge([(2, 4), (None, 5)], WHOLE), Gauge(TANKS, [BELOW, BEYOND])]:
            self.assertFalse(gauge == other)
            self.assertTrue(gauge != other)
        stopped, looked = Gauge(TANKS, WHOLE), Gauge(TANKS, WHOLE)
        stopped.stop(0, 1, True)
        looked.see(0, "above", 1)
        self.assertTrue(same(stopped.widths(), looked.widths()))
        self.assertFalse(stopped == looked)

    def test_not_equal_to_anything_else(self):
        gauge = Gauge(TANKS, WHOLE)
        for other in (None, 0, True, "", [], (), TANKS, (TANKS, WHOLE), gauge.script(), gauge.widths(), Gauge, object(),
                      {}):
            self.assertFalse(gauge == other)
            self.assertFalse(other == gauge)
            self.assertTrue(gauge != other)


class Kept(GaugeChecks):
    def test_what_is_passed_is_not_kept(self):
        tanks, known, step = copy.deepcopy(FOUR), copy.deepcopy(POINTS + [BEYOND]), ("open", [0, 1])
        gauge = Gauge(tanks, known)
        gauge(step)
        before = self.state(gauge)
        for part in lists_in([tanks, known, step]):
            part.append(1)
        self.assertEqual(self.state(gauge), before)

    def test_what_is_returned_is_new(self):
        gauge = rooted()
        gauge.see(2, "even", 3)
        self.check_new([gauge.widths(), gauge.widths(), gauge.may_see(0, 1), gauge.may_see(0, 1), gauge.script().steps],
                       [])
        before = self.state(gauge)
        for part in lists_in([gauge.widths(), gauge.may_see(2, 3), gauge.script().steps, gauge.script().tanks]):
            part.append(1)
        self.assertEqual(self.state(gauge), before)
        self.assertTrue(same(gauge.widths(), POINTS))

    def test_what_was_told_does_not_change(self):
        gauge = rooted()
        gauge.see(2, "even", 3)
        plan, left = gauge.script(), gauge.widths()
        gauge(("pour", 0, 1))
        gauge.undo()
        gauge.undo()
        gauge.undo()
        self.assertEqual(plan.steps, [("open", [0, 1]), ("open", [1, 2])])
        self.assertTrue(same(left, POINTS))

    def test_questions_change_nothing(self):
        gauge = rooted()
        before, twin = self.state(gauge), copy.deepcopy(gauge)
        for claim in [("above", 0, 1), ("not over", 2, (1, 1)), ("even", 2, 3)]:
            gauge.sure(claim)
        self.assertEqual(self.state(gauge), before)
        self.assertTrue(gauge == twin)
        self.check_nothing_kept(lambda known: Gauge(TANKS, known).widths(), POINTS + [BEYOND])


class Wrong(GaugeChecks):
    def test_tanks(self):
        for bad in NO_TANKS:
            self.check_error(InvalidTank, bad, Gauge, [bad], WHOLE)
            self.check_error(InvalidTank, bad, Gauge, known=[None], tanks=TANKS + [bad, (0, 0)])
        for tanks in ([], [(1, 1)], [(None, 1), (None, 1)]):
            self.check_error(InvalidTank, None, Gauge, tanks, WHOLE)
            self.check_error(InvalidTank, None, Gauge, tanks, [])

    def test_known_sets(self):
        for bad in NO_RANGES:
            self.check_error(InvalidRange, bad, Gauge, TANKS, [bad])
            self.check_error(InvalidRange, bad, Gauge, known=POINTS + [bad, ()], tanks=TANKS)
        self.check_error(InvalidRange, [], Gauge, TANKS, [])
        self.check_error(InvalidRange, [], Gauge, known=[], tanks=TANKS)

    def test_steps(self):
        gauge = Gauge([(2, 4), (None, 6), (1, 0)], WHOLE)
        gauge(("open", [0, 1]))
        for bad in NO_STEPS:
            self.check_refused(InvalidStep, bad, gauge, gauge, bad)
        for bad, number in STRANGE:
            self.check_refused(UnknownTank, number, gauge, gauge, step=bad)
        for bad in NO_PARTS:
            self.check_refused(InvalidFraction, bad, gauge, gauge, ("scoop", 0, bad))
            self.check_refused(UnknownTank, 3, gauge, gauge, ("move", 0, 3, bad))
        for bad in [("unless", 0, 1), ("unless", 2, 1)]:
            self.check_refused(InvalidStep, bad, gauge, gauge, bad)
            self.check_refused(InvalidStep, bad, gauge, gauge, step=bad)
        self.check_refused(UnknownTank, 3, gauge, gauge, ("unless", 0, 3))
        gauge.stop(0, 2, True)
        for step in [("open", [0, 1]), ("pour", 0, 0), ("unless", 1, 0), ("scoop", 0, (0, 1))]:
            self.check_refused(InvalidStep, step, gauge, gauge, step)
        self.check_refused(UnknownTank, 3, gauge, gauge, ("pour", 3, 1))
        self.check_refused(InvalidFraction, (3, 2), gauge, gauge, ("scoop", 0, (3, 2)))

    def test_looks(self):
        gauge = Gauge(TANKS, [BEYOND])
        for one, other, bad in [(2, 0, 2), (0, 2, 2), (3, 2, 3), (-1, 9, -1), (0, -2, -2), (2, 2, 2)]:
            self.check_refused(UnknownTank, bad, gauge, gauge.see, one, "even", other)
            self.check_refused(UnknownTank, bad, gauge, gauge.see, other=other, word="odd", one=one)
            self.check_refused(UnknownTank, bad, gauge, gauge.may_see, one, other)
            self.check_refused(UnknownTank, bad, gauge, gauge.may_see, other=other, one=one)
            self.check_refused(UnknownTank, bad, gauge, gauge.stop, one, other, True)
            self.check_refused(UnknownTank, bad, gauge, gauge.stop, seen=False, other=other, one=one)
        for bad in ["Above", "", "not above", "not over", "over", "even ", "e", None, 0, ["above"]]:
            self.check_refused(InvalidClaim, bad, gauge, gauge.see, 0, bad, 1)
            self.check_refused(InvalidClaim, bad, gauge, gauge.see, 1, bad, 1)
        for one, word, other in [(0, "even", 1), (0, "below", 1), (1, "above", 0), (0, "below", 0)]:
            self.check_refused(InvalidClaim, (one, word, other), gauge, gauge.see, one, word, other)
            self.check_refused(InvalidClaim, (one, word, other), gauge, gauge.see, other=other, one=one, word=word)

    def test_stops(self):
        gauge = Gauge(TANKS, [BEYOND])
        for seen in (True, False):
            self.check_refused(InvalidStep, ("unless", 1, 1), gauge, gauge.stop, 1, 1, seen)
            self.check_refused(InvalidStep, ("unless", 0, 0), gauge, gauge.stop, seen=seen, other=0, one=0)
        self.check_refused(InvalidStep, ("unless", 0, 1), gauge, gauge.stop, 0, 1, False)
        self.check_refused(InvalidStep, ("unless", 1, 0), gauge, gauge.stop, 1, 0, True)
        gauge.stop(0, 1, True)
        for one, other, seen in [(0, 1, True), (1, 0, False), (1, 1, True)]:
            self.check_refused(InvalidStep, ("unless", one, other), gauge, gauge.stop, one, other, seen)
        self.check_refused(UnknownTank, 2, gauge, gauge.stop, 2, 2, True)

    def test_claims(self):
        gauge = Gauge(TANKS, POINTS)
        for bad in [("Above", 0, 1), ("", 0, 1), ("over", 0, (1, 1)), ("not", 9, 9), ("not even", 0, 1),
                    ("above ", 9, 9)]:
            self.check_refused(InvalidClaim, bad, gauge, gauge.sure, bad)
            self.check_refused(InvalidClaim, bad, gauge, gauge.sure, claim=bad)
        for word in ["above", "even", "below", "not above"]:
            for one, other, bad in [(2, 0, 2), (0, 2, 2), (4, 3, 4), (-1, 9, -1)]:
                self.check_refused(UnknownTank, bad, gauge, gauge.sure, (word, one, other))
        self.check_refused(UnknownTank, 2, gauge, gauge.sure, ("not over", 2, (2, 4)))
        for bad in [(2, 4), (1, 0), (1, -1), (True, 1), (1,), None, 1, [1, 1]]:
            self.check_refused(InvalidFraction, bad, gauge, gauge.sure, ("not over", 0, bad))

    def test_heights(self):
        gauge = Gauge(TANKS, [((1, 1), True, (2, 1), False)])
        for height, expected in [((6, 1), True), ((3, 1), False), ((4, 1), None), ((-1, 1), False), ((0, 1), False),
                                 ((10 ** 15, 1), True), ((10 ** 15 * 3 + 1, 10 ** 15), None)]:
            self.assertIs(gauge.sure(("not over", 1, height)), expected)
            self.assertIs(gauge.sure(("not over", 0, height)), converted(height, 1) >= 2)


if __name__ == "__main__":
    unittest.main()
