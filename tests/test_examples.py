"""The examples of the document, as they stand there, and those of README.md."""

import doctest
import pathlib
import unittest

POLYNOMIALS = """
>>> from valvelevels.polynomials import common, plain, plus, rest, times, trimmed, value
>>> [trimmed([0, 2, 0]), plus([1, 2], [0, -2]), times([1, 1], [-1, 1]), value([1, -4, 1], (1, 2)), rest([1, 0, 1], [0, 2]), rest([-1, 0, 1], [1, 1]), common([-2, 0, 2], [3, 3]), plain([1, 2, 1])]
[[0, 2], [1], [-1, 0, 1], (-3, 4), [1], [], [1, 1], [1, 1]]
"""

PLACES = """
>>> from valvelevels.places import compare, has, number_of_roots, places, row, same, sign, simplest, turns, united, without
>>> told = row([1, -4, 1])
>>> [told, turns(told, (0, 1)), turns(told, (1, 1)), turns(told, None), number_of_roots([1, -4, 1], (0, 1), None), number_of_roots([0, -2, 1], (0, 1), (2, 1)), len(places([1, -4, 1])), places([-6, 1, 1])]
[[[1, -4, 1], [-4, 2], [1]], 2, 1, 0, 2, 1, 2, [(2, 1)]]
>>> one, other = ("root", [1, -4, 1], (0, 1), (1, 1)), ("root", [1, -4, 1], (3, 1), (4, 1))
>>> [compare(one, other), compare(one, (1, 4)), sign([-1, 4], one), sign([1, -4, 1], other), simplest((one, False, other, False)), simplest((other, True, None, False))]
[-1, 1, 1, 0, (1, 1), (4, 1)]
>>> halves = [((0, 1), False, one, True), (one, True, (1, 1), False)]
>>> [united(halves), has(halves, one), without([((0, 1), False, None, False)], [((1, 1), True, None, False)]), same(halves, [((0, 1), False, (1, 1), False)])]
[[((0, 1), False, (1, 1), False)], True, [((0, 1), False, (1, 1), False)], True]
"""


class Examples(unittest.TestCase):
    def run_section(self, name, text):
        test = doctest.DocTestParser().get_doctest(text, {}, name, None, 0)
        report = []
        result = doctest.DocTestRunner().run(test, out=report.append)
        self.assertGreater(result.attempted, 1)
        self.assertEqual(result.failed, 0, "".join(report))

    def test_polynomials(self):
        self.run_section("polynomials", POLYNOMIALS)

    def test_places(self):
        self.run_section("places", PLACES)

    def test_readme(self):
        text = (pathlib.Path(__file__).resolve().parent.parent / "README.md").read_text()
        for block in text.split("```")[1::2]:
            self.run_section("README.md", block)


if __name__ == "__main__":
    unittest.main()
