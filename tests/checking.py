"""Checks that the tests of all files share."""

import copy
import unittest

from oracle import lists_in


class Checks(unittest.TestCase):
    def check_new(self, found, given):
        """That all lists in a value stand there once, and none of them in what was passed."""
        lists = [id(part) for part in lists_in(found)]
        self.assertEqual(len(set(lists)), len(lists))
        self.assertFalse(set(lists) & {id(part) for part in lists_in(given)})

    def check_error(self, error, passed, call, *arguments, **named):
        """That a call raises just this error, whose value is a copy of what was passed, and changes nothing."""
        before = copy.deepcopy((arguments, named))
        with self.assertRaises(error) as held:
            call(*arguments, **named)
        kept = held.exception.value
        self.assertIs(type(held.exception), error)
        self.assertEqual((kept, type(kept)), (passed, type(passed)))
        self.assertEqual((arguments, named), before)
        self.check_new(kept, list(arguments) + list(named.values()))

    def check_nothing_kept(self, call, *arguments):
        """That a call changes nothing, and that changing what it returned changes nothing else."""
        before = copy.deepcopy(arguments)
        found = call(*arguments)
        self.assertEqual(arguments, before)
        self.check_new(found, arguments)
        expected = copy.deepcopy(found)
        for part in lists_in(found):
            part.append(9)
        self.assertEqual(arguments, before)
        self.assertEqual(call(*arguments), expected)
