"""What the tests of several modules ask alike."""

import copy
import unittest


class PromiseCase(unittest.TestCase):
    def assert_whole(self, value):
        # By type: for Python True is a whole number too, for the document it never is.
        self.assertIs(type(value), int, repr(value))

    def assert_numbers(self, told, wanted):
        self.assertIs(type(told), list)
        for number in told:
            self.assert_whole(number)
        self.assertEqual(told, wanted)

    def assert_leaves_alone(self, function, *arguments):
        before = copy.deepcopy(arguments)
        function(*arguments)
        self.assertEqual(arguments, before, function.__name__)

    def assert_owned_by_caller(self, function, *arguments):
        first = function(*arguments)
        wanted = copy.deepcopy(first)
        first.append("changed")
        first.reverse()
        self.assertEqual(function(*arguments), wanted)
