import unittest

from valvelevels import errors

NAMES = ["InvalidTank", "InvalidStep", "UnknownTank", "UnknownStep", "InvalidFraction", "InvalidPolynomial",
         "InvalidPlace", "InvalidRange", "InvalidClaim", "NothingToUndo", "Unreadable"]


class ErrorClasses(unittest.TestCase):
    def test_tank_error_is_a_value_error_alone(self):
        self.assertEqual(errors.TankError.__bases__, (ValueError,))

    def test_all_others_are_tank_errors_and_of_no_other_class_of_the_program(self):
        for name in NAMES:
            with self.subTest(name):
                made = getattr(errors, name)
                self.assertEqual([base for base in made.__mro__ if base.__module__ == errors.__name__],
                                 [made, errors.TankError])
                self.assertEqual(made.__module__, "valvelevels.errors")
                self.assertEqual(made.__name__, name)

    def test_there_are_just_these_classes(self):
        found = [name for name, thing in vars(errors).items() if isinstance(thing, type)]
        self.assertEqual(sorted(found), sorted(NAMES + ["TankError"]))

    def test_value_is_stored_itself_by_position_and_by_name(self):
        for name in NAMES + ["TankError"]:
            for value in [[1, [2]], (1, 2), None, 0, "text", {}, ValueError("x"), object()]:
                with self.subTest(name, value=value):
                    made = getattr(errors, name)
                    self.assertIs(made(value).value, value)
                    self.assertIs(made(value=value).value, value)

    def test_just_one_argument(self):
        for name in NAMES + ["TankError"]:
            with self.subTest(name):
                made = getattr(errors, name)
                self.assertRaises(TypeError, made)
                self.assertRaises(TypeError, made, 1, 2)
                self.assertRaises(TypeError, made, other=1)

    def test_they_are_raised_and_caught(self):
        for name in NAMES:
            with self.subTest(name):
                made = getattr(errors, name)
                for caught in (made, errors.TankError, ValueError):
                    with self.assertRaises(caught) as held:
                        raise made([1, 2])
                    self.assertEqual(held.exception.value, [1, 2])
                for other in NAMES:
                    self.assertEqual(issubclass(made, getattr(errors, other)), other == name)


if __name__ == "__main__":
    unittest.main()
