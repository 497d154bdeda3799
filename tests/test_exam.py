"""Points 2, 5 to 9, 13 and 14: what is brought to an exam, its step and its dealing."""

import itertools
import unittest

from secondread.against import first_against
from secondread.bounds import MOST_HOUSES, MOST_LIMIT, MOST_PAPERS, MOST_READERS, MOST_STEP
from secondread.dealing import first_dealing, left_after
from secondread.errors import Full, OutOfTime
from secondread.exam import Exam
from tests.helper import (PromiseCase, all_told, dealt_exam, exam_with, exams_of_all_sizes, first_by_search, full_exams,
                          outcomes, small_exams)


class NewExamTest(PromiseCase):
    def test_a_new_exam(self):
        self.assert_answers(Exam(), papers=[], readers=[], step=0, dealt=False, dealing=None, against=None,
                            due=[], marks=[], left=[])


class BroughtTest(PromiseCase):
    def test_papers_are_numbered_from_1_on(self):
        exam = Exam()
        houses = [3, 1, 6, 6, 2, 4, 5, 1, 1, 3]
        for number, house in enumerate(houses, start=1):
            self.assert_same(exam.bring_paper(house), number)
            self.assert_answers(exam, papers=houses[:number], readers=[], step=0, dealt=False, dealing=None,
                                against=[1], due=[], marks=[None] * number, left=[])

    def test_readers_are_numbered_from_1_on(self):
        exam = Exam()
        rows = [[0, 0], [1, 30], [6, 1], [0, 29], [2, 2], [3, 17], [4, 5], [5, 0]]
        for number, row in enumerate(rows, start=1):
            self.assert_same(exam.bring_reader(row[0], row[1]), number)
            self.assert_answers(exam, papers=[], readers=rows[:number], step=0, dealt=False, dealing=None,
                                against=None, due=[], marks=[], left=[limit for house, limit in rows[:number]])

    def test_papers_and_readers_are_numbered_apart(self):
        exam = Exam()
        told = outcomes(exam, [("bring_reader", 1, 4), ("bring_paper", 2), ("bring_paper", 1), ("bring_reader", 0, 7),
                               ("set_step", 3), ("bring_paper", 2), ("bring_reader", 2, 0)])
        self.assert_same(told, [1, 1, 2, 2, 3, 3, 3])
        self.assert_answers(exam, papers=[2, 1, 2], readers=[[1, 4], [0, 7], [2, 0]], step=3, left=[4, 7, 0],
                            marks=[None, None, None], due=[], dealing=None, dealt=False)

    def test_every_house(self):
        exam = Exam()
        for house in range(1, MOST_HOUSES + 1):
            exam.bring_paper(house)
        for house in range(MOST_HOUSES + 1):
            exam.bring_reader(house, house)
        self.assert_answers(exam, papers=[1, 2, 3, 4, 5, 6], readers=[[house, house] for house in range(7)])

    def test_every_limit(self):
        for limit in range(MOST_LIMIT + 1):
            exam = Exam()
            self.assert_same(exam.bring_reader(0, limit), 1)
            self.assert_answers(exam, readers=[[0, limit]], left=[limit])

    def test_the_eleventh_paper(self):
        exam = exam_with([1] * MOST_PAPERS, [])
        self.assert_refused(exam, ("bring_paper", 2), Full)
        self.assert_same(exam.bring_reader(0, 20), 1)
        self.assert_same(exam.bring_reader(0, 20), 2)
        self.assert_refused(exam, ("bring_paper", 2), Full)
        self.assertIs(exam.deal(), True)

    def test_the_ninth_reader(self):
        exam = exam_with([], [[1, 1]] * MOST_READERS)
        self.assert_refused(exam, ("bring_reader", 0, 30), Full)
        self.assert_same(exam.bring_paper(2), 1)
        self.assert_refused(exam, ("bring_reader", 0, 30), Full)
        self.assertIs(exam.deal(), True)

    def test_the_step(self):
        exam = Exam()
        for step in list(range(MOST_STEP + 1)) + [0, 100, 7, 7]:
            self.assert_same(exam.set_step(step), step)
            self.assert_answers(exam, step=step, papers=[], readers=[], dealt=False)

    def test_a_step_that_is_set_takes_the_place_of_the_one_before(self):
        exam = exam_with([1], [[0, 1], [0, 1], [0, 1]], 50)
        exam.set_step(3)
        exam.deal()
        self.assert_same(outcomes(exam, [("enter", 1, 1, 10), ("enter", 1, 2, 14)]), [0, 3])
        self.assert_answers(exam, step=3)

    def test_a_step_that_was_never_set_is_0(self):
        for points, third in ((10, 0), (11, 3), (9, 3)):
            exam = Exam()
            outcomes(exam, [("bring_paper", 1)] + [("bring_reader", 0, 1)] * 3 + [("deal",)])
            self.assert_same(outcomes(exam, [("enter", 1, 1, 10), ("enter", 1, 2, points)]), [0, third])


class DealTest(PromiseCase):
    def test_true_and_then_the_first_dealing(self):
        exam = exam_with([1, 2], [[1, 5], [2, 3], [0, 2], [0, 0]], 6)
        self.assertIs(exam.deal(), True)
        self.assert_answers(exam, papers=[1, 2], readers=[[1, 5], [2, 3], [0, 2], [0, 0]], step=6, dealt=True,
                            dealing=[[2, 3], [1, 3]], against=None, due=[[1, 2], [1, 3], [2, 1], [2, 3]],
                            marks=[None, None], left=[4, 2, 0, 0])

    def test_no_papers_and_no_readers(self):
        exam = Exam()
        self.assertIs(exam.deal(), True)
        self.assert_answers(exam, papers=[], readers=[], step=0, dealt=True, dealing=[], against=None, due=[],
                            marks=[], left=[])

    def test_no_papers_and_some_readers(self):
        exam = exam_with([], [[1, 0], [0, 4]])
        self.assertIs(exam.deal(), True)
        self.assert_answers(exam, dealt=True, dealing=[], against=None, due=[], marks=[], left=[0, 4])
        for deed in (("deal",), ("bring_paper", 1), ("bring_reader", 1, 1), ("set_step", 1)):
            self.assert_refused(exam, deed, OutOfTime)

    def test_papers_and_no_readers(self):
        exam = exam_with([4, 4], [])
        self.assertIs(exam.deal(), False)
        self.assert_answers(exam, papers=[4, 4], dealt=False, dealing=None, against=[1], due=[], marks=[None, None],
                            left=[])

    def test_false_changes_nothing(self):
        exam = exam_with([1, 2, 1], [[1, 5], [0, 2], [2, 1]], 9)
        before = all_told(exam)
        for turn in range(3):
            self.assertIs(exam.deal(), False)
            self.assert_same(all_told(exam), before)
        self.assert_answers(exam, papers=[1, 2, 1], readers=[[1, 5], [0, 2], [2, 1]], step=9, dealt=False,
                            dealing=None, against=[1, 3], due=[], marks=[None] * 3, left=[5, 2, 1])

    def test_false_and_then_more_is_brought_and_dealt_again(self):
        exam = exam_with([1, 2, 1], [[1, 5], [0, 2], [2, 1]])
        self.assertIs(exam.deal(), False)
        self.assert_answers(exam, against=[1, 3])
        self.assert_same(exam.bring_reader(2, 1), 4)
        self.assertIs(exam.deal(), False)
        self.assert_answers(exam, against=[1, 2, 3])
        self.assert_same(exam.bring_reader(3, 1), 5)
        self.assert_answers(exam, against=None, dealt=False, dealing=None)
        self.assertIs(exam.deal(), True)
        self.assert_answers(exam, dealt=True, against=None, dealing=[[2, 3], [1, 2], [4, 5]], left=[4, 0, 0, 0, 0])

    def test_false_and_then_more_papers_are_brought(self):
        exam = exam_with([1], [[0, 4]])
        self.assertIs(exam.deal(), False)
        self.assert_same(exam.bring_paper(2), 2)
        self.assertIs(exam.deal(), False)
        self.assert_answers(exam, papers=[1, 2], marks=[None, None], against=[1])
        self.assert_same(exam.bring_reader(2, 3), 2)
        self.assertIs(exam.deal(), False)
        self.assert_answers(exam, against=[2])
        self.assert_same(exam.set_step(4), 4)
        self.assert_same(exam.bring_reader(3, 1), 3)
        self.assertIs(exam.deal(), True)
        self.assert_answers(exam, papers=[1, 2], readers=[[0, 4], [2, 3], [3, 1]], step=4, dealt=True, against=None,
                            dealing=[[1, 2], [1, 3]], due=[[1, 1], [1, 2], [2, 1], [2, 3]], left=[2, 2, 0])

    def test_the_same_as_without_the_dealings_that_failed(self):
        deeds = [("bring_paper", 1), ("bring_reader", 0, 2), ("bring_paper", 2), ("set_step", 2),
                 ("bring_reader", 1, 1), ("bring_reader", 2, 2)]
        dealt_often = Exam()
        for deed in deeds[:-1]:
            outcomes(dealt_often, [deed])
            self.assertIs(dealt_often.deal(), False)
        outcomes(dealt_often, deeds[-1:])
        dealt_once = Exam()
        outcomes(dealt_once, deeds)
        self.assertIs(dealt_often.deal(), True)
        self.assertIs(dealt_once.deal(), True)
        self.assert_same(all_told(dealt_often), all_told(dealt_once))

    def test_behind_the_dealing_for_good(self):
        exam = dealt_exam([1], [[0, 3], [0, 3]])
        for turn in range(2):
            for deed in (("deal",), ("bring_paper", 1), ("bring_reader", 1, 1), ("set_step", 1)):
                self.assert_refused(exam, deed, OutOfTime)
            outcomes(exam, [("enter", 1, 1, 5), ("enter", 1, 2, 5)])
        self.assert_answers(exam, dealt=True, papers=[1], readers=[[0, 3], [0, 3]], step=0)

    def test_deeds_in_any_order(self):
        deeds = [("bring_paper", 1), ("bring_reader", 0, 1), ("set_step", 4), ("bring_reader", 2, 1)]
        for order in itertools.permutations(deeds):
            exam = Exam()
            outcomes(exam, order)
            self.assert_answers(exam, papers=[1], step=4)
            self.assertIs(exam.deal(), True)
            self.assert_answers(exam, dealing=[[1, 2]], left=[0, 0])

    def test_two_hundred_deeds(self):
        exam = exam_with([1] * 3, [[0, 5]])
        for turn in range(97):
            self.assertIs(exam.deal(), False)
            self.assert_same(exam.set_step(turn), turn)
        self.assert_same(exam.bring_reader(2, 3), 2)
        self.assertIs(exam.deal(), True)
        self.assert_answers(exam, step=96, dealing=[[1, 2]] * 3, left=[2, 0])

    def test_either_the_first_dealing_or_the_first_set_against_it(self):
        told = []
        for papers, readers in small_exams(150) + exams_of_all_sizes() + full_exams(20):
            exam = exam_with(papers, readers)
            against = exam.against()
            self.assert_same(against, first_against(papers, readers))
            told.append(exam.deal())
            self.assertIs(told[-1], against is None)
            rows = first_by_search(papers, readers)
            self.assert_same(exam.dealing(), rows)
            self.assert_same(exam.dealing(), first_dealing(papers, readers))
            self.assert_same(exam.against(), None if told[-1] else against)
            if told[-1]:
                self.assert_answers(exam, left=left_after(readers, rows), marks=[None] * len(papers),
                                    due=[[paper, reader] for paper, row in enumerate(rows, start=1) for reader in row])
        self.assertGreater(told.count(True), 100)
        self.assertGreater(told.count(False), 100)


if __name__ == "__main__":
    unittest.main()
