"""What the tests of several modules ask alike."""

import copy
import functools
import itertools
import random
import time
import unittest

from secondread.errors import ReadError
from secondread.exam import Exam

# In seconds: far above what is needed, far below what going through all rows of ten papers would take.
MOMENT = 5

QUESTIONS = ("papers", "readers", "step", "dealt", "dealing", "against", "due", "marks", "left")


def lists_within(value):
    if type(value) not in (list, tuple):
        return []
    found = [value] if type(value) is list else []
    for part in value:
        found.extend(lists_within(part))
    return found


class PromiseCase(unittest.TestCase):
    def assert_whole(self, value):
        # By type: for Python True is a whole number too, for the document it never is.
        self.assertIs(type(value), int, repr(value))

    def assert_numbers(self, told, wanted):
        self.assertIs(type(told), list)
        for number in told:
            self.assert_whole(number)
        self.assertEqual(told, wanted)

    def assert_leaves_alone(self, function, *arguments):
        before = copy.deepcopy(arguments)
        function(*arguments)
        self.assertEqual(arguments, before, function.__name__)

    def assert_owned_by_caller(self, function, *arguments):
        first = function(*arguments)
        wanted = copy.deepcopy(first)
        first.append("changed")
        first.reverse()
        self.assertEqual(function(*arguments), wanted)

    def assert_rows(self, told, wanted):
        self.assertIs(type(told), list)
        for row in told:
            self.assert_numbers(row, row)
        self.assertEqual(told, wanted)

    def assert_shares_no_list(self, function, *arguments):
        first = function(*arguments)
        second = function(*arguments)
        self.assertEqual(first, second)
        handed_in = set(map(id, lists_within(arguments)))
        told = lists_within(first) + lists_within(second)
        self.assertGreaterEqual(len(told), 2)
        self.assertEqual(len(set(map(id, told))), len(told), function.__name__)
        self.assertTrue(handed_in.isdisjoint(map(id, told)), function.__name__)
        for changed in lists_within(first):
            changed.append("changed")
        self.assertEqual(function(*arguments), second, function.__name__)

    def assert_answers(self, exam, **wanted):
        for question, answer in wanted.items():
            told = getattr(exam, question)()
            self.assert_same(told, answer, question)

    # Equal and of the same kinds throughout: so that True is not taken for 1, nor a tuple for a list.
    def assert_same(self, told, wanted, about=None):
        self.assertEqual(told, wanted, about)
        self.assertEqual(kinds_within(told), kinds_within(wanted), about)

    # What is refused changes nothing that can be asked.
    def assert_refused(self, exam, deed, error):
        before = all_told(exam)
        self.assertIs(outcome(exam, deed), error, deed[0])
        self.assert_same(all_told(exam), before)

    def within_a_moment(self, function, *arguments):
        start = time.process_time()
        told = function(*arguments)
        self.assertLess(time.process_time() - start, MOMENT)
        return told


def kinds_within(value):
    if type(value) in (list, tuple):
        return [type(value), [kinds_within(part) for part in value]]
    return type(value)


# A deed is a tuple: its name, then what is handed to it. A refusal is told by its class.
def outcome(exam, deed):
    try:
        return getattr(exam, deed[0])(*deed[1:])
    except ReadError as error:
        return type(error)


def outcomes(exam, deeds):
    return [outcome(exam, deed) for deed in deeds]


def all_told(exam):
    return [copy.deepcopy(getattr(exam, question)()) for question in QUESTIONS]


def exam_with(papers, readers, step=0):
    exam = Exam()
    for house in papers:
        exam.bring_paper(house)
    for house, limit in readers:
        exam.bring_reader(house, limit)
    exam.set_step(step)
    return exam


def dealt_exam(papers, readers, step=0):
    exam = exam_with(papers, readers, step)
    if exam.deal() is not True:
        raise AssertionError("these papers can't be dealt")
    return exam


# The first way that any search in the order of point 8 comes upon; what failed once is kept in mind.
def first_by_search(papers, readers):
    @functools.lru_cache(maxsize=None)
    def behind(paper, left):
        if paper == len(papers):
            return ()
        may = [place for place, row in enumerate(readers) if row[0] != papers[paper] and left[place] > 0]
        for first, second in itertools.combinations(may, 2):
            less = list(left)
            less[first] -= 1
            less[second] -= 1
            rest = behind(paper + 1, tuple(less))
            if rest is not None:
                return ((first + 1, second + 1),) + rest
        return None

    found = behind(0, tuple(limit for house, limit in readers))
    return None if found is None else [list(row) for row in found]


# Papers and readers for tests that compare many of them: from written seeds, so the same at each run.
def some_papers(source, many):
    return [source.randint(1, 6) for paper in range(many)]


def some_readers(source, many, most):
    return [[source.randint(0, 6), source.randint(0, most)] for reader in range(many)]


def small_exams(many):
    source = random.Random(8)
    exams = []
    for turn in range(many):
        # Few houses and small limits: so about as many can be dealt as can't.
        papers = [source.randint(1, 3) for paper in range(source.randint(0, 4))]
        readers = [[source.randint(0, 3), source.randint(0, 4)] for reader in range(source.randint(0, 5))]
        exams.append((papers, readers))
    return exams


def exams_of_all_sizes():
    source = random.Random(9)
    exams = []
    for papers in range(11):
        for readers in range(9):
            for most in (3, 6, 30):
                exams.append((some_papers(source, papers), some_readers(source, readers, most)))
    return exams


def full_exams(many):
    source = random.Random(10)
    exams = []
    for turn in range(many):
        exams.append((some_papers(source, 10), some_readers(source, 8, source.choice((4, 5, 6)))))
    return exams
