"""The examples of the document, as they stand there, and those of README.md."""

import doctest
import pathlib
import unittest

POLYNOMIALS = """
>>> from valvelevels.polynomials import common, plain, plus, rest, times, trimmed, value
>>> [trimmed([0, 2, 0]), plus([1, 2], [0, -2]), times([1, 1], [-1, 1]), value([1, -4, 1], (1, 2)), rest([1, 0, 1], [0, 2]), rest([-1, 0, 1], [1, 1]), common([-2, 0, 2], [3, 3]), plain([1, 2, 1])]
[[0, 2], [1], [-1, 0, 1], (-3, 4), [1], [], [1, 1], [1, 1]]
"""

PLACES = """
>>> from valvelevels.places import compare, has, number_of_roots, places, row, same, sign, simplest, turns, united, without
>>> told = row([1, -4, 1])
>>> [told, turns(told, (0, 1)), turns(told, (1, 1)), turns(told, None), number_of_roots([1, -4, 1], (0, 1), None), number_of_roots([0, -2, 1], (0, 1), (2, 1)), len(places([1, -4, 1])), places([-6, 1, 1])]
[[[1, -4, 1], [-4, 2], [1]], 2, 1, 0, 2, 1, 2, [(2, 1)]]
>>> one, other = ("root", [1, -4, 1], (0, 1), (1, 1)), ("root", [1, -4, 1], (3, 1), (4, 1))
>>> [compare(one, other), compare(one, (1, 4)), sign([-1, 4], one), sign([1, -4, 1], other), simplest((one, False, other, False)), simplest((other, True, None, False))]
[-1, 1, 1, 0, (1, 1), (4, 1)]
>>> halves = [((0, 1), False, one, True), (one, True, (1, 1), False)]
>>> [united(halves), has(halves, one), without([((0, 1), False, None, False)], [((1, 1), True, None, False)]), same(halves, [((0, 1), False, (1, 1), False)])]
[[((0, 1), False, (1, 1), False)], True, [((0, 1), False, (1, 1), False)], True]
"""

WAYS = """
>>> from valvelevels.scripts import Script
>>> from valvelevels.ways import judge_ways, run, way_at, ways
>>> chain = Script([(1, 6), (None, 0), (1, 0)], [("open", [0, 1]), ("open", [1, 2])])
>>> [run(chain, (1, 1)), run(chain, (2, 1)), ways(chain), judge_ways(chain, ways(chain))]
[(None, [(3, 1), (3, 2), (3, 2)]), (None, [(2, 1), (4, 3), (4, 3)]), [(None, [([6], [1, 1]), ([0, 6], [1, 2, 1]), ([0, 6], [1, 2, 1])], [((0, 1), False, None, False)])], True]
>>> halt = Script([(2, 4), (None, 6)], [("unless", 0, 1), ("open", [0, 1]), ("scoop", 0, (1, 2))])
>>> [run(halt, (4, 1)), run(halt, (3, 1)), [(index, widths) for index, forms, widths in ways(halt)], way_at(ways(halt), (1, 1))]
[(0, [(2, 1), (3, 2)]), (None, [(1, 1), (2, 1)]), [(0, [((3, 1), False, None, False)]), (None, [((0, 1), False, (3, 1), True)])], (None, [(5, 3), (10, 3)])]
"""

SIGNS = """
>>> from valvelevels.places import places
>>> from valvelevels.scripts import Script
>>> from valvelevels.signs import above, broken, even, highest, holds, over, over_by, runs_in
>>> chain = Script([(1, 6), (None, 0), (1, 0)], [("open", [0, 1]), ("open", [1, 2])])
>>> [above(chain, 0, 1), even(chain, 1, 2), above(chain, 1, 2), holds(chain, ("above", 0, 2)), broken(chain, ("not over", 2, (1, 1))), holds(chain, ("not over", 2, (3, 2))), highest(chain, 2), highest(chain, 0)]
[[((0, 1), False, None, False)], [((0, 1), False, None, False)], [], True, (1, 1), True, ((3, 2), True), ((6, 1), False)]
>>> [len(over(chain, 2, (1, 1))), over(chain, 2, (3, 2)), runs_in(chain, 1, 2), broken(chain, ("below", 0, 2)), over_by(Script([(2, 4), (None, 6)], [("unless", 0, 1)]), 0)]
[1, [], [((0, 1), False, None, False)], (1, 1), [((3, 1), False, None, False)]]
"""

PAPERS = """
>>> from valvelevels.papers import claim_polynomial, judge_paper, paper
>>> from valvelevels.scripts import Script
>>> chain = Script([(1, 6), (None, 0), (1, 0)], [("open", [0, 1]), ("open", [1, 2])])
>>> [paper([1, -1, 1], "above"), paper([1, -4, 1], "above"), judge_paper([1, -1, 1], "above", [[2, -2, 2], [-1, 2], [-1]]), judge_paper([1, -1, 1], "below", paper([1, -1, 1], "above")), claim_polynomial(chain, ("above", 0, 2)), claim_polynomial(chain, ("not over", 2, (1, 1)))]
[[[1, -1, 1], [-1, 2], [-1]], None, True, False, [6, 12, 6], [-1, 2, 6, 2, -1]]
"""

CHANGES = """
>>> from valvelevels.changes import alike, first_unlike, least_sets, may_exchange, needless, unlike
>>> from valvelevels.scripts import Script
>>> tanks = [(1, 6), (None, 0), (1, 0)]
>>> both, whole = Script(tanks, [("open", [0, 1]), ("open", [0, 2])]), Script(tanks, [("open", [0, 2]), ("open", [0, 1])])
>>> [alike(both, whole), first_unlike(both, whole), needless(Script(tanks, [("open", [0, 1]), ("open", [0, 1]), ("pour", 2, 0)])), least_sets(Script(tanks, [("open", [0, 1]), ("open", [0, 1])])), may_exchange(Script(tanks, [("pour", 0, 2), ("pour", 2, 1)]), 0)]
[False, (1, 1), [0, 1, 2], [[0], [1]], True]
>>> [unlike(both, whole), unlike(Script(tanks, []), Script(tanks, [("unless", 0, 2), ("pour", 0, 1)]))]
[[((0, 1), False, None, False)], []]
"""

LIMITS = """
>>> from valvelevels.limits import from_where, great, great_way, small, small_way
>>> from valvelevels.scripts import Script
>>> halt = Script([(2, 4), (None, 6)], [("unless", 0, 1), ("open", [0, 1]), ("scoop", 0, (1, 2))])
>>> [small(halt), great(halt), small_way(halt), great_way(halt), from_where(halt)]
[[(5, 2), (5, 1)], [(2, 1), (0, 1)], None, 0, ((3, 1), (3, 1))]
"""

SLOPES = """
>>> from valvelevels.scripts import Script
>>> from valvelevels.slopes import falling, peaks, rising, still, tells_width
>>> chain = Script([(1, 6), (None, 0), (1, 0)], [("open", [0, 1]), ("open", [1, 2])])
>>> [rising(chain, 2), falling(chain, 2), still(chain, 2), peaks(chain, 2), tells_width(chain, 0), tells_width(chain, 2)]
[[((0, 1), False, (1, 1), False)], [((1, 1), False, None, False)], [], [(1, 1)], True, False]
>>> leap = Script([(2, 4), (None, 6)], [("unless", 0, 1), ("pour", 0, 2)])
>>> [still(leap, 0), peaks(leap, 0), rising(leap, 1)]
[[((0, 1), False, (3, 1), False), ((3, 1), False, None, False)], [], []]
"""

SHARES = """
>>> from valvelevels.scripts import Script
>>> from valvelevels.shares import enough, shares
>>> poured = Script([(1, 6), (None, 0)], [("open", [0, 1]), ("pour", 0, 2)])
>>> [shares(poured, 0), shares(poured, 1), enough(poured, 1, 0, (5, 2)), enough(poured, 1, 1, (1, 2))]
[[([1], [1, 1]), ([1], [1, 1]), ([1], [1])], [([1], [1, 1]), ([1], [1, 1]), ([], [1])], 3, None]
"""

GUESSES = """
>>> from valvelevels.guesses import fitting, tells_most, told_back
>>> from valvelevels.scripts import Script
>>> halt, plain = Script([(2, 4), (None, 6)], []), Script([(2, 4), (None, 6)], [("open", [0, 1])])
>>> [fitting(halt, [(0, "above", 1)]), fitting(halt, [(0, "even", 1)]), told_back([halt, plain], [[(1, "above", 0)], [(0, "even", 1)]]), tells_most([plain, halt], [((1, 1), True, (5, 1), True)], 0, 1)]
[[((3, 1), False, None, False)], [((3, 1), True, (3, 1), True)], [((0, 1), False, (3, 1), False)], 1]
"""

CHOICES = """
>>> from valvelevels.choices import advice, best, choose, fewest
>>> from valvelevels.scripts import Script
>>> tanks = [(2, 4), (None, 6)]
>>> plans = [Script(tanks, []), Script(tanks, [("open", [0, 1])]), Script(tanks, [("scoop", 0, (1, 2))])]
>>> whole = [((0, 1), False, None, False)]
>>> [best(plans, 0), fewest(plans, 0), choose(plans, [((4, 1), True, None, False)], 0), choose(plans, whole, 0), advice(plans, whole, plans[0], 0, 1, 0)]
[[[((3, 1), True, None, False)], [((0, 1), False, (3, 1), True)], []], [0, 1], 0, None, [('above', 0), ('even', 0), ('below', 1)]]
"""

BENCHES = """
>>> from valvelevels.benches import Bench
>>> bench = Bench([(2, 4), (None, 6)], (4, 1))
>>> [bench.levels(), bench(("open", [0, 1])), bench.levels(), bench.water(), bench(("unless", 0, 1)), bench.undo(), bench.undo(), bench(("unless", 0, 1)), bench.ended, len(bench)]
[[(2, 1), (3, 2)], False, [(5, 3), (5, 3)], (10, 1), False, None, None, True, 0, 1]
"""

GAUGES = """
>>> from valvelevels.gauges import Gauge
>>> gauge = Gauge([(2, 4), (None, 6)], [((0, 1), False, None, False)])
>>> [gauge.see(0, "above", 1), gauge.widths(), gauge(("open", [0, 1])), gauge.may_see(0, 1), gauge.sure(("even", 0, 1)), gauge.sure(("not over", 0, (2, 1))), gauge.undo(), len(gauge)]
[True, [((3, 1), False, None, False)], None, ['even'], True, True, None, 1]
"""

READINGS = """
>>> from valvelevels.readings import read_polynomial, read_script
>>> from valvelevels.scripts import Script
>>> from valvelevels.texts import show_polynomial, show_script
>>> plan = Script([(2, 4), (None, 6), (1, 0)], [("open", [0, 1, 2]), ("move", 0, 2, (1, 3)), ("pour", 1, 5), ("unless", 2, 0)])
>>> [show_script(plan), read_script(show_script(plan)) == plan, show_polynomial([1, -4, 1]), read_polynomial("0")]
['4 in 2, 6 in w, 0 in 1; open 0,1,2; move 0 2 1/3; pour 1 5; unless 2 0', True, '1 -4 1', []]
"""


class Examples(unittest.TestCase):
    def run_section(self, name, text):
        test = doctest.DocTestParser().get_doctest(text, {}, name, None, 0)
        report = []
        result = doctest.DocTestRunner().run(test, out=report.append)
        self.assertGreater(result.attempted, 1)
        self.assertEqual(result.failed, 0, "".join(report))

    def test_polynomials(self):
        self.run_section("polynomials", POLYNOMIALS)

    def test_places(self):
        self.run_section("places", PLACES)

    def test_ways(self):
        self.run_section("ways", WAYS)

    def test_signs(self):
        self.run_section("signs", SIGNS)

    def test_papers(self):
        self.run_section("papers", PAPERS)

    def test_changes(self):
        self.run_section("changes", CHANGES)

    def test_limits(self):
        self.run_section("limits", LIMITS)

    def test_slopes(self):
        self.run_section("slopes", SLOPES)

    def test_shares(self):
        self.run_section("shares", SHARES)

    def test_guesses(self):
        self.run_section("guesses", GUESSES)

    def test_choices(self):
        self.run_section("choices", CHOICES)

    def test_benches(self):
        self.run_section("benches", BENCHES)

    def test_gauges(self):
        self.run_section("gauges", GAUGES)

    def test_readings(self):
        self.run_section("readings", READINGS)

    def test_readme(self):
        text = (pathlib.Path(__file__).resolve().parent.parent / "README.md").read_text()
        for block in text.split("```")[1::2]:
            self.run_section("README.md", block)


if __name__ == "__main__":
    unittest.main()
