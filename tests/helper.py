"""What the tests of several modules ask alike."""

import copy
import random
import unittest


def lists_within(value):
    if type(value) not in (list, tuple):
        return []
    found = [value] if type(value) is list else []
    for part in value:
        found.extend(lists_within(part))
    return found


class PromiseCase(unittest.TestCase):
    def assert_whole(self, value):
        # By type: for Python True is a whole number too, for the document it never is.
        self.assertIs(type(value), int, repr(value))

    def assert_numbers(self, told, wanted):
        self.assertIs(type(told), list)
        for number in told:
            self.assert_whole(number)
        self.assertEqual(told, wanted)

    def assert_leaves_alone(self, function, *arguments):
        before = copy.deepcopy(arguments)
        function(*arguments)
        self.assertEqual(arguments, before, function.__name__)

    def assert_owned_by_caller(self, function, *arguments):
        first = function(*arguments)
        wanted = copy.deepcopy(first)
        first.append("changed")
        first.reverse()
        self.assertEqual(function(*arguments), wanted)

    def assert_rows(self, told, wanted):
        self.assertIs(type(told), list)
        for row in told:
            self.assert_numbers(row, row)
        self.assertEqual(told, wanted)

    def assert_shares_no_list(self, function, *arguments):
        first = function(*arguments)
        second = function(*arguments)
        self.assertEqual(first, second)
        handed_in = set(map(id, lists_within(arguments)))
        told = lists_within(first) + lists_within(second)
        self.assertGreaterEqual(len(told), 2)
        self.assertEqual(len(set(map(id, told))), len(told), function.__name__)
        self.assertTrue(handed_in.isdisjoint(map(id, told)), function.__name__)
        for changed in lists_within(first):
            changed.append("changed")
        self.assertEqual(function(*arguments), second, function.__name__)


# Papers and readers for tests that compare many of them: from written seeds, so the same at each run.
def some_papers(source, many):
    return [source.randint(1, 6) for paper in range(many)]


def some_readers(source, many, most):
    return [[source.randint(0, 6), source.randint(0, most)] for reader in range(many)]


def small_exams(many):
    source = random.Random(8)
    exams = []
    for turn in range(many):
        # Few houses and small limits: so about as many can be dealt as can't.
        papers = [source.randint(1, 3) for paper in range(source.randint(0, 4))]
        readers = [[source.randint(0, 3), source.randint(0, 4)] for reader in range(source.randint(0, 5))]
        exams.append((papers, readers))
    return exams


def exams_of_all_sizes():
    source = random.Random(9)
    exams = []
    for papers in range(11):
        for readers in range(9):
            for most in (3, 6, 30):
                exams.append((some_papers(source, papers), some_readers(source, readers, most)))
    return exams


def full_exams(many):
    source = random.Random(10)
    exams = []
    for turn in range(many):
        exams.append((some_papers(source, 10), some_readers(source, 8, source.choice((4, 5, 6)))))
    return exams
