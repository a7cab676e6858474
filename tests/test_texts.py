"""Texts of scripts and polynomials, and what is read back from texts that are right or wrong."""

import random
import unittest

from checking import Checks
from streams import some_script, some_step, some_tanks, some_words
from valvelevels.errors import TankError, Unreadable
from valvelevels.polynomials import times
from valvelevels.readings import read_polynomial, read_script
from valvelevels.scripts import Script
from valvelevels.texts import show_polynomial, show_script
from valvelevels.ways import run

TANKS = [(2, 4), (None, 6), (1, 0)]
SHOWN = "4 in 2, 6 in w, 0 in 1"
KINDS = ["open", "pour", "scoop", "move", "unless"]
LETTERS = [chr(k) for k in range(32, 127) if k != 37]
TOLD = [
    (Script([(None, 0)], []), "0 in w"), (Script([(None, 1000)], [("pour", 0, 0)]), "1000 in w; pour 0 0"),
    (Script(TANKS, []), SHOWN), (Script(TANKS, [("open", [0, 1])]), SHOWN + "; open 0,1"),
    (Script(TANKS, [("open", [0, 1, 2]), ("open", [1, 2])]), SHOWN + "; open 0,1,2; open 1,2"),
    (Script(TANKS, [("pour", 2, 12)]), SHOWN + "; pour 2 12"),
    (Script(TANKS, [("scoop", 0, (0, 1)), ("scoop", 1, (1, 1)), ("scoop", 2, (5, 6))]),
     SHOWN + "; scoop 0 0/1; scoop 1 1/1; scoop 2 5/6"),
    (Script(TANKS, [("move", 2, 0, (1, 3)), ("move", 0, 1, (0, 1))]), SHOWN + "; move 2 0 1/3; move 0 1 0/1"),
    (Script(TANKS, [("unless", 2, 0), ("unless", 0, 2)]), SHOWN + "; unless 2 0; unless 0 2"),
    (Script([(None, 999999999), (999999999, 0)], [("pour", 1, 123456789), ("scoop", 0, (999999998, 999999999))]),
     "999999999 in w, 0 in 999999999; pour 1 123456789; scoop 0 999999998/999999999"),
    (Script([(1, 1)] * 12 + [(None, 7)], [("open", [0, 9, 10, 11, 12])]),
     "1 in 1, " * 12 + "7 in w; open 0,9,10,11,12")]
POLYNOMIALS = [([], "0"), ([5], "5"), ([-5], "-5"), ([1, -4, 1], "1 -4 1"), ([0, 0, -1], "0 0 -1"), ([0, 1], "0 1"),
               ([999999999, -999999999], "999999999 -999999999"), ([-1, 0, 10], "-1 0 10")]
# What is no integer, wherever one stands.
NO_INTEGERS = ["", "-", "-0", "00", "01", "-01", "+1", "1.0", "1.", "1e3", "0x1", "1_0", "1234567890", "-1234567890",
               "1000000000", "0000000001", "w", "W", "in", "a", "1a", "--1", "1-", "- 1", " 1", "1 ", "(1)", "1;", ":"]


def plain_text(plan):
    """The text of a script, put together once more."""
    text = ", ".join(["{} in {}".format(amount, width or "w") for width, amount in plan.tanks])
    for step in plan.steps:
        text += "; " + step[0]
        for thing in step[1:]:
            if isinstance(thing, list):
                thing = ",".join(map(str, thing))
            elif isinstance(thing, tuple):
                thing = "{}/{}".format(*thing)
            text += " {}".format(thing)
    return text


def great_script(source):
    words = source.choices(KINDS, k=60)
    return Script(some_tanks(source, 20, 1000), [some_step(source, word, 20, 1000, 1000) for word in words])


class TextChecks(Checks):
    def check_script(self, plan):
        text = show_script(plan)
        self.assertEqual([text, show_script(plan=plan)], [plain_text(plan)] * 2)
        for found in (read_script(text), read_script(text=text)):
            self.assertIs(type(found), Script)
            self.assertTrue(found == plan)
            self.assertEqual([found.tanks, found.steps], [plan.tanks, plan.steps])
        return text

    def check_unreadable(self, text, read=read_script):
        self.check_error(Unreadable, text, read, text)
        self.check_error(Unreadable, text, read, text=text)

    def check_either(self, text, read, show):
        """That a text is unreadable, or just that of what is read."""
        try:
            found = read(text)
        except TankError as error:
            self.assertEqual((type(error), error.value), (Unreadable, text))
            return False
        self.assertEqual(show(found), text)
        return True


class Shown(TextChecks):
    def test_told_scripts(self):
        for plan, text in TOLD:
            with self.subTest(text=text):
                self.assertEqual(self.check_script(plan), text)

    def test_told_polynomials(self):
        for one, text in POLYNOMIALS:
            self.assertEqual([show_polynomial(one), show_polynomial(one=one)], [text, text])
            self.assertEqual([read_polynomial(text), read_polynomial(text=text)], [one, one])

    def test_random_scripts(self):
        source = random.Random(171)
        for _ in range(200):
            self.check_script(some_script(source, some_words(source), source.randint(2, 4)))

    def test_random_polynomials(self):
        source = random.Random(172)
        for _ in range(200):
            most = source.choice([1, 9, 10 ** 6, 999999999])
            one = [source.randint(-most, most) for _ in range(source.randint(0, 8))] + [source.choice([-most, most])]
            self.assertEqual(show_polynomial(one), " ".join(map(str, one)))
            self.assertEqual(read_polynomial(show_polynomial(one)), one)

    def test_polynomials_of_any_size(self):
        one = [3, -10 ** 64, 10 ** 64 - 1, 10 ** 128 + 7, -7 * 10 ** 1000]
        self.assertEqual(show_polynomial(one), " ".join(map(str, one)))
        # Python itself writes at most 4300 digits at once.
        for _ in range(9):
            one = times(one, [10 ** 500, 1])
        words = show_polynomial(one).split(" ")
        self.assertEqual([len(word.lstrip("-")) for word in words[:2] + words[-1:]], [4501, 4564, 1001])
        self.assertEqual([words[0], words[-1]], ["3" + "0" * 4500, "-7" + "0" * 1000])

    def test_the_bounds(self):
        source = random.Random(173)
        for _ in range(20):
            plan = great_script(source)
            text = self.check_script(plan)
            self.assertEqual(run(read_script(text), (617, 1000)), run(plan, (617, 1000)))

    def test_texts_of_three_thousand_signs(self):
        text = "1 in w"
        while len(text) + len("; open 0,1") <= 3000:
            text = "1 in 2, " + text if len(text) < 1500 else text + "; open 0,1"
        self.assertEqual(show_script(read_script(text)), text)
        text = "0 in w" + "; pour 0 0" * 299
        self.assertEqual(len(text), 2996)
        self.assertEqual(len(read_script(text)), 299)
        self.assertEqual(len(read_script("1 in 1, " * 374 + "7 in w").tanks), 375)
        self.check_unreadable(text + "; po")
        for text in ["1" * 3000, "-" * 3000, " " * 3000, "; " * 1500, ", " * 1500, "0 in w" + "; " * 1497, "w" * 3000,
                     "0 in w; open " + "0," * 1490, "0 in w; open " + ",".join(str(k) for k in range(700))]:
            self.check_unreadable(text)
            self.check_unreadable(text, read_polynomial)
        self.assertEqual(read_polynomial("1 " * 1499 + "1"), [1] * 1500)
        self.check_unreadable("1 " * 1499 + "0", read_polynomial)

    def test_nothing_is_kept(self):
        for plan, text in TOLD:
            self.check_nothing_kept(lambda told: read_script(told).steps, text)
            before = [plan.tanks, plan.steps]
            show_script(plan)
            self.assertEqual([plan.tanks, plan.steps], before)
        self.check_nothing_kept(show_polynomial, [1, 2])
        self.check_nothing_kept(read_polynomial, "1 2")
        self.check_nothing_kept(read_polynomial, "0")


class WrongScripts(TextChecks):
    def test_no_script_at_all(self):
        for text in ["", " ", ";", "; ", ",", ", ", "w", "in", "in w", "0 in", "0in w", "0 inw", "0 w", "0 in w ",
                     " 0 in w", "0  in w", "0 in  w", "0 in w,", "0 in w, ", "0 in w;", "0 in w; ", "0 in w,0 in 1",
                     "0 IN w", "0 in W", "w in 0", "0 in w in", "0 in w w", "(0 in w)", "0 in w.", "0 in None",
                     "None in w",
                     "0", "pour 0 0", "0 in w pour 0 0", "0 in w, pour 0 0", "0 in w;pour 0 0", "0 in w;  pour 0 0",
                     "0 in w; pour 0 0;", "0 in w; pour 0 0; ", "0 in w;; pour 0 0", "; pour 0 0", "0 in w; 0 in 1"]:
            with self.subTest(text=text):
                self.check_unreadable(text)

    def test_tanks(self):
        for text in ["0 in 1", "0 in w, 0 in w", "0 in 0, 0 in w", "0 in -1, 0 in w", "-1 in w", "-1 in 1, 0 in w",
                     "0 in 1, 0 in 2", "1/2 in w", "0 in 1/2, 0 in w", "0,1 in w", "w in w", "0 in w, 1 in 1, 2 in w"]:
            self.check_unreadable(text)
        for bad in NO_INTEGERS:
            self.check_unreadable(bad + " in w")
            if bad != "w":
                self.check_unreadable("1 in w, 1 in " + bad)

    def test_steps(self):
        for text in [
                "open", "open ", "open 0", "open 0,", "open ,1", "open 0, 1", "open 0 1", "open 0,1 2", "open 0,0",
                "open 1,0", "open 0,1,1", "open 0,3", "open -1,0", "open 0,1/2", "open 0/1", "open [0,1]", "Open 0,1",
                "opens 0,1", "open  0,1", " open 0,1", "open 0,1 ", "open 0;1", "open w,1",
                "pour", "pour 0", "pour 0 -1", "pour 3 1", "pour -1 1", "pour 0 1 2", "pour 0,1 1", "pour 0 1/2",
                "pour 0 1,2", "pour 0/1 1", "pour 0  1", "pour0 1", "pour w 1",
                "scoop 0", "scoop 0 1", "scoop 0 1/0", "scoop 0 2/4", "scoop 0 3/2", "scoop 0 -1/2", "scoop 0 0/2",
                "scoop 0 1/-2", "scoop 0 1/2/3", "scoop 0 1/", "scoop 0 /2", "scoop 0 1 /2", "scoop 0 1 2",
                "scoop 3 1/2", "scoop 0 1,2", "scoop 0 (1/2)", "scoop 0 0", "scoop 0 0/0", "scoop 0 -0/1",
                "scoop 0 1/1/1",
                "move 0 1", "move 0 1 1", "move 0 0 1/2", "move 0 3 1/2", "move 3 0 1/2", "move 0,1 1/2",
                "move 0 1 2/2", "move 0 1/2 1", "move 0 1 2 1/2", "move -1 0 1/2", "move 0 1 1/2 ",
                "unless", "unless 0", "unless 0 0", "unless 0 3", "unless 3 0", "unless 0,1", "unless 0/1",
                "unless 0 1 2", "unless 0 -1", "unless w 1", "until 0 1", "shut 0", "", " ", "0", "in", "0 in 1",
                ",", "/"]:
            with self.subTest(text=text):
                self.check_unreadable(SHOWN + "; " + text)
                self.check_unreadable(SHOWN + "; open 0,1; " + text + "; pour 0 1")

    def test_integers(self):
        for bad in NO_INTEGERS:
            for step in ["open 0,{}", "open {},1", "pour {} 1", "pour 0 {}", "scoop {} 1/2", "scoop 0 {}/2",
                         "scoop 0 1/{}", "move {} 1 1/2", "move 0 {} 1/2", "move 0 1 {}/2", "move 0 1 1/{}",
                         "unless {} 0", "unless 0 {}"]:
                self.check_unreadable(SHOWN + "; " + step.format(bad))

    def test_integers_of_nine_and_of_ten_digits(self):
        for text in ["{} in w", "1 in {}, 1 in w", "1 in w; pour 0 {}", "1 in w; scoop 0 1/{}"]:
            self.assertEqual(show_script(read_script(text.format(999999999))), text.format(999999999))
            self.check_unreadable(text.format(1000000000))
            self.check_unreadable(text.format(10 ** 20))
        # Scripts may have greater integers; they are shown, but not read.
        plan = Script([(None, 10 ** 9)], [("pour", 0, 10 ** 30)])
        self.assertEqual(show_script(plan), "1000000000 in w; pour 0 1" + "0" * 30)
        self.check_unreadable(show_script(plan))

    def test_texts_changed_at_random(self):
        source = random.Random(174)
        readable = 0
        for _ in range(6000):
            text = source.choice(TOLD[:9])[1]
            for _ in range(source.randint(1, 2)):
                at = source.randrange(len(text) + 1)
                sign = source.choice(LETTERS if source.random() < 0.2 else " ,;/-0123456789w")
                text = source.choice([text[:at] + sign + text[at:], text[:at] + sign + text[at + 1:],
                                      text[:at] + text[at + 1:]])
            readable += self.check_either(text, read_script, show_script)
        self.assertGreater(readable, 200)

    def test_texts_of_any_signs(self):
        source = random.Random(175)
        words = ["in", "w", "0", "1", "2", "open", "pour", "; ", ", ", " ", ",", "/", "1/2", "scoop", "0,1", "-"]
        for _ in range(3000):
            text = "".join(source.choices(words if source.random() < 0.7 else LETTERS, k=source.randint(0, 12)))
            self.check_either(text, read_script, show_script)
            self.check_either(text, read_polynomial, show_polynomial)


class WrongPolynomials(TextChecks):
    def test_no_polynomials(self):
        for text in NO_INTEGERS + [
                "0 0", "1 0", "-1 0 0", "1  2", " 1 2", "1 2 ", "1,2", "1, 2", "1/2", "[1]", "1 w", "1 -0", "-0 1",
                "1 02", "1 1234567890", "1234567890 1", "1 +2", "1 - 2", "1 2;", "0 in w"]:
            with self.subTest(text=text):
                self.check_unreadable(text, read_polynomial)

    def test_texts_changed_at_random(self):
        source = random.Random(176)
        readable = 0
        for _ in range(3000):
            text = source.choice(POLYNOMIALS)[1]
            at = source.randrange(len(text) + 1)
            sign = source.choice(" -0123456789,/")
            text = source.choice([text[:at] + sign + text[at:], text[:at] + text[at + 1:]])
            readable += self.check_either(text, read_polynomial, show_polynomial)
        self.assertGreater(readable, 500)


if __name__ == "__main__":
    unittest.main()
