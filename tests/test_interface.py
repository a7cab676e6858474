"""Each name of the interface stands where it is listed, with its arguments."""

import inspect
import unittest

from valvelevels import (
    benches, changes, choices, errors, gauges, guesses, limits, papers, places, polynomials, readings, scripts, shares,
    signs, slopes, texts, ways)

FUNCTIONS = {
    polynomials: {
        "trimmed": ["numbers"], "plus": ["one", "other"], "times": ["one", "other"], "value": ["one", "spot"],
        "rest": ["one", "other"], "common": ["one", "other"], "plain": ["one"]},
    places: {
        "row": ["one"], "turns": ["told", "spot"], "number_of_roots": ["one", "low", "high"], "places": ["one"],
        "sign": ["one", "place"], "compare": ["one", "other"], "simplest": ["stretch"],
        "has": ["told", "place"], "united": ["told"], "without": ["one", "other"], "same": ["one", "other"]},
    ways: {
        "run": ["plan", "width"], "ways": ["plan"], "way_at": ["told", "width"], "judge_ways": ["plan", "told"]},
    signs: {
        "above": ["plan", "one", "other"], "even": ["plan", "one", "other"], "over": ["plan", "tank", "height"],
        "runs_in": ["plan", "index", "tank"], "over_by": ["plan", "index"], "highest": ["plan", "tank"],
        "holds": ["plan", "claim"], "broken": ["plan", "claim"]},
    papers: {
        "paper": ["one", "word"], "judge_paper": ["one", "word", "told"], "claim_polynomial": ["plan", "claim"]},
    changes: {
        "alike": ["one", "other"], "unlike": ["one", "other"], "first_unlike": ["one", "other"], "needless": ["plan"],
        "least_sets": ["plan"], "may_exchange": ["plan", "index"]},
    limits: {
        "small": ["plan"], "great": ["plan"], "small_way": ["plan"], "great_way": ["plan"], "from_where": ["plan"]},
    slopes: {
        "rising": ["plan", "tank"], "falling": ["plan", "tank"], "still": ["plan", "tank"], "peaks": ["plan", "tank"],
        "tells_width": ["plan", "tank"]},
    shares: {
        "shares": ["plan", "tank"], "enough": ["plan", "index", "tank", "height"]},
    guesses: {
        "fitting": ["plan", "seen"], "told_back": ["plans", "seen"], "tells_most": ["plans", "known", "one", "other"]},
    choices: {
        "best": ["plans", "tank"], "fewest": ["plans", "tank"], "choose": ["plans", "known", "tank"],
        "advice": ["plans", "known", "look", "one", "other", "tank"]},
    texts: {
        "show_script": ["plan"], "show_polynomial": ["one"]},
    readings: {
        "read_script": ["text"], "read_polynomial": ["text"]}}
# Classes with their properties, their methods and the arguments of these.
CLASSES = {
    scripts.Script: (["tanks", "steps", "unknown"], {
        "__init__": ["tanks", "steps"], "without": ["index"], "exchanged": ["index"], "__len__": [], "__eq__": ["other"],
        "__getitem__": ["at"]}),
    benches.Bench: (["ended"], {
        "__init__": ["tanks", "width"], "__call__": ["step"], "levels": [], "water": [], "undo": [], "script": [],
        "__len__": [], "__eq__": ["other"]}),
    gauges.Gauge: ([], {
        "__init__": ["tanks", "known"], "__call__": ["step"], "see": ["one", "word", "other"],
        "stop": ["one", "other", "seen"], "widths": [], "may_see": ["one", "other"], "sure": ["claim"], "undo": [],
        "script": [], "__len__": [], "__eq__": ["other"]})}
FILES = {scripts.Script: "valvelevels.scripts", benches.Bench: "valvelevels.benches",
         gauges.Gauge: "valvelevels.gauges"}


class Interface(unittest.TestCase):
    def test_functions_are_defined_where_they_are_listed(self):
        for module, functions in FUNCTIONS.items():
            for name in functions:
                with self.subTest(name):
                    function = getattr(module, name)
                    self.assertTrue(inspect.isfunction(function))
                    self.assertEqual(function.__module__, module.__name__)
                    self.assertEqual(function.__name__, name)

    def test_arguments_have_their_names_and_order(self):
        for module, functions in FUNCTIONS.items():
            for name, arguments in functions.items():
                with self.subTest(name):
                    found = inspect.signature(getattr(module, name)).parameters
                    self.assertEqual(list(found), arguments)
                    for parameter in found.values():
                        self.assertEqual(parameter.kind, parameter.POSITIONAL_OR_KEYWORD)
                        self.assertIs(parameter.default, parameter.empty)

    def test_classes_define_their_methods_themselves(self):
        for made, (properties, methods) in CLASSES.items():
            self.assertEqual(made.__module__, FILES[made])
            self.assertEqual(made.__bases__, (object,))
            for name in properties:
                self.assertIsInstance(vars(made)[name], property)
            for name, arguments in methods.items():
                with self.subTest(name):
                    found = inspect.signature(vars(made)[name]).parameters
                    self.assertEqual(list(found)[1:], arguments)
                    for parameter in found.values():
                        self.assertEqual(parameter.kind, parameter.POSITIONAL_OR_KEYWORD)
                        self.assertIs(parameter.default, parameter.empty)

    def test_errors_take_a_value(self):
        self.assertEqual(list(inspect.signature(errors.TankError).parameters), ["value"])


if __name__ == "__main__":
    unittest.main()
