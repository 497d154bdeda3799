"""Points 10, 11, 12, 15, 16, 17 and 18: readings entered, third readers named, and what is told behind each."""

import itertools
import unittest

from secondread.errors import NotDue
from tests.helper import PromiseCase, dealt_exam, outcomes

FREE = [0, 30]


class TwoReadingsTest(PromiseCase):
    def test_what_is_told_behind_each_reading(self):
        exam = dealt_exam([1, 2], [[1, 5], [2, 3], [0, 2]], 4)
        self.assert_answers(exam, due=[[1, 2], [1, 3], [2, 1], [2, 3]], marks=[None, None], left=[4, 2, 0])
        self.assert_same(exam.enter(1, 2, 60), 0)
        self.assert_answers(exam, due=[[1, 3], [2, 1], [2, 3]], marks=[None, None], left=[4, 2, 0])
        self.assert_same(exam.enter(2, 3, 100), 0)
        self.assert_answers(exam, due=[[1, 3], [2, 1]], marks=[None, None], left=[4, 2, 0])
        self.assert_same(exam.enter(1, 3, 63), 0)
        self.assert_answers(exam, due=[[2, 1]], marks=[[123, 2, [[2, 60], [3, 63]]], None], left=[4, 2, 0])
        self.assert_same(exam.enter(2, 1, 98), 0)
        self.assert_answers(exam, due=[], left=[4, 2, 0], dealt=True, dealing=[[2, 3], [1, 3]], step=4, against=None,
                            marks=[[123, 2, [[2, 60], [3, 63]]], [99, 1, [[1, 98], [3, 100]]]])

    def test_either_order_of_the_two(self):
        for order in ((1, 2), (2, 1)):
            points = {1: 40, 2: 43}
            exam = dealt_exam([1], [FREE, FREE, FREE], 3)
            for reader in order:
                self.assert_answers(exam, marks=[None])
                self.assert_same(exam.enter(1, reader, points[reader]), 0)
            self.assert_answers(exam, marks=[[83, 2, [[1, 40], [2, 43]]]], due=[])

    def test_either_order_of_the_two_with_a_third(self):
        for order in ((1, 2), (2, 1)):
            points = {1: 40, 2: 44}
            exam = dealt_exam([1], [FREE, FREE, FREE], 3)
            self.assert_same([exam.enter(1, reader, points[reader]) for reader in order], [0, 3])
            self.assert_answers(exam, marks=[None], due=[[1, 3]], left=[29, 29, 29])
            self.assert_same(exam.enter(1, 3, 41), 0)
            self.assert_answers(exam, marks=[[41, 1, [[1, 40], [2, 44], [3, 41]]]], due=[], left=[29, 29, 29])

    def test_a_difference_of_just_the_step_and_of_one_more(self):
        for step in (0, 1, 2, 50, 98, 99):
            for low, high in ((0, step), (100 - step, 100)):
                for one, other in ((low, high), (high, low)):
                    exam = dealt_exam([1], [FREE, FREE, FREE], step)
                    self.assert_same(outcomes(exam, [("enter", 1, 1, one), ("enter", 1, 2, other)]), [0, 0])
                    self.assert_answers(exam, due=[], left=[29, 29, 30])
            for one, other in ((0, step + 1), (step + 1, 0), (100, 99 - step), (99 - step, 100)):
                exam = dealt_exam([1], [FREE, FREE, FREE], step)
                self.assert_same(outcomes(exam, [("enter", 1, 1, one), ("enter", 1, 2, other)]), [0, 3])
                self.assert_answers(exam, due=[[1, 3]], marks=[None], left=[29, 29, 29])

    def test_with_the_greatest_step_all_agree(self):
        exam = dealt_exam([1], [FREE, FREE, FREE], 100)
        self.assert_same(outcomes(exam, [("enter", 1, 1, 0), ("enter", 1, 2, 100)]), [0, 0])
        self.assert_answers(exam, marks=[[50, 1, [[1, 0], [2, 100]]]])

    def test_marks_in_lowest_terms(self):
        for one, other, top, bottom in ((0, 0, 0, 1), (0, 1, 1, 2), (1, 0, 1, 2), (1, 1, 1, 1), (2, 4, 3, 1),
                                        (99, 100, 199, 2), (100, 100, 100, 1)):
            exam = dealt_exam([1], [FREE, FREE], 2)
            outcomes(exam, [("enter", 1, 1, one), ("enter", 1, 2, other)])
            self.assert_answers(exam, marks=[[top, bottom, [[1, one], [2, other]]]])

    def test_a_reading_is_due_once(self):
        exam = dealt_exam([1], [FREE, FREE, FREE], 0)
        exam.enter(1, 2, 7)
        self.assert_refused(exam, ("enter", 1, 2, 8), NotDue)
        self.assert_refused(exam, ("enter", 1, 3, 8), NotDue)
        self.assert_same(exam.enter(1, 1, 7), 0)
        for reader in (1, 2, 3):
            self.assert_refused(exam, ("enter", 1, reader, 8), NotDue)
        self.assert_answers(exam, marks=[[7, 1, [[1, 7], [2, 7]]]])

    def test_each_mark_stands_in_the_place_of_its_paper(self):
        exam = dealt_exam([1] * 4, [FREE, FREE], 0)
        for paper, told in ((3, [None, None, 3, None]), (1, [1, None, 3, None]), (4, [1, None, 3, 4]),
                            (2, [1, 2, 3, 4])):
            exam.enter(paper, 2, paper)
            exam.enter(paper, 1, paper)
            self.assert_answers(exam, marks=[None if number is None else [number, 1, [[1, number], [2, number]]]
                                             for number in told])


class ThirdReaderTest(PromiseCase):
    def test_the_least_numbered_one_who_fits(self):
        exam = dealt_exam([2, 1], [[1, 2], [0, 2], [1, 30], [0, 0], [2, 1], [3, 5], [0, 5]], 1)
        self.assert_answers(exam, dealing=[[1, 2], [2, 5]])
        self.assert_same(outcomes(exam, [("enter", 1, 1, 10), ("enter", 1, 2, 20)]), [0, 3])
        self.assert_same(outcomes(exam, [("enter", 2, 2, 10), ("enter", 2, 5, 20)]), [0, 6])
        self.assert_answers(exam, due=[[1, 3], [2, 6]], left=[1, 0, 29, 0, 0, 4, 5], dealing=[[1, 2], [2, 5]])

    def test_a_reader_of_the_house_and_one_at_the_limit_are_passed_over(self):
        # Reader 1 has a reading left, but is of the house of paper 1; reader 4 has none beyond the dealing.
        exam = dealt_exam([1, 2], [[1, 2], [0, 1], [0, 1], [0, 1]], 0)
        self.assert_answers(exam, dealing=[[2, 3], [1, 4]], left=[1, 0, 0, 0])
        self.assert_same(outcomes(exam, [("enter", 1, 2, 1), ("enter", 1, 3, 2)]), [0, 0])
        self.assert_answers(exam, marks=[[1, 1, [[2, 1], [3, 2]]], None])

    def test_the_third_reading_below_between_and_above_the_two(self):
        for third, middle in ((0, 20), (19, 20), (20, 20), (21, 21), (30, 30), (39, 39), (40, 40), (41, 40), (100, 40)):
            for one, other in ((20, 40), (40, 20)):
                exam = dealt_exam([1], [FREE, FREE, FREE], 19)
                self.assert_same(outcomes(exam, [("enter", 1, 1, one), ("enter", 1, 2, other), ("enter", 1, 3, third)]),
                                 [0, 3, 0])
                self.assert_answers(exam, marks=[[middle, 1, [[1, one], [2, other], [3, third]]]], due=[])

    def test_no_fourth_reader_is_named(self):
        exam = dealt_exam([1], [FREE] * 8, 0)
        told = outcomes(exam, [("enter", 1, 1, 0), ("enter", 1, 2, 50), ("enter", 1, 3, 100)])
        self.assert_same(told, [0, 3, 0])
        self.assert_answers(exam, due=[], left=[29, 29, 29] + [30] * 5, marks=[[50, 1, [[1, 0], [2, 50], [3, 100]]]])
        for reader in range(1, 9):
            self.assert_refused(exam, ("enter", 1, reader, 50), NotDue)

    def test_the_third_reading_is_due_from_the_later_of_the_two_on(self):
        exam = dealt_exam([1], [FREE] * 4, 0)
        self.assert_refused(exam, ("enter", 1, 3, 5), NotDue)
        exam.enter(1, 1, 5)
        self.assert_refused(exam, ("enter", 1, 3, 5), NotDue)
        self.assert_same(exam.enter(1, 2, 6), 3)
        self.assert_answers(exam, due=[[1, 3]], marks=[None])
        for reader in (1, 2, 4):
            self.assert_refused(exam, ("enter", 1, reader, 5), NotDue)
        self.assert_same(exam.enter(1, 3, 5), 0)
        self.assert_refused(exam, ("enter", 1, 3, 5), NotDue)

    def test_nobody_left_as_third_reader(self):
        for readers in ([FREE, FREE], [FREE, FREE, [1, 30]], [FREE, FREE, [0, 0]], [FREE, FREE, [0, 0], [1, 5]]):
            for one, other in ((30, 60), (60, 30)):
                exam = dealt_exam([1], readers, 29)
                self.assert_same(outcomes(exam, [("enter", 1, 1, one), ("enter", 1, 2, other)]), [0, 0])
                self.assert_answers(exam, due=[], marks=[[30, 1, [[1, one], [2, other]]]],
                                    left=[29, 29] + [limit for house, limit in readers[2:]])
                for reader in range(1, len(readers) + 1):
                    self.assert_refused(exam, ("enter", 1, reader, 50), NotDue)

    def test_the_two_readers_are_not_taken_for_want_of_others(self):
        exam = dealt_exam([1, 1], [FREE, FREE], 0)
        self.assert_same(outcomes(exam, [("enter", 1, 1, 3), ("enter", 1, 2, 5)]), [0, 0])
        self.assert_answers(exam, marks=[[3, 1, [[1, 3], [2, 5]]], None], left=[28, 28])

    def test_several_papers_want_the_same_third_reader(self):
        exam = dealt_exam([1] * 4, [[0, 4], [0, 4], [0, 2], [0, 1]], 0)
        self.assert_answers(exam, dealing=[[1, 2]] * 4, left=[0, 0, 2, 1])
        named = []
        for paper in (4, 2, 1, 3):
            exam.enter(paper, 1, 10)
            named.append(exam.enter(paper, 2, 20))
        self.assert_same(named, [3, 3, 4, 0])
        self.assert_answers(exam, left=[0, 0, 0, 0], due=[[1, 4], [2, 3], [4, 3]],
                            marks=[None, None, [10, 1, [[1, 10], [2, 20]]], None])
        self.assert_same(outcomes(exam, [("enter", 1, 4, 30), ("enter", 2, 3, 15), ("enter", 4, 3, 5)]), [0, 0, 0])
        self.assert_answers(exam, due=[], left=[0, 0, 0, 0],
                            marks=[[20, 1, [[1, 10], [2, 20], [4, 30]]], [15, 1, [[1, 10], [2, 20], [3, 15]]],
                                   [10, 1, [[1, 10], [2, 20]]], [10, 1, [[1, 10], [2, 20], [3, 5]]]])

    def test_the_moment_of_the_later_reading_counts(self):
        # Paper 1 gets its first reading first, but paper 2 is the first to have both.
        exam = dealt_exam([1, 1], [[0, 2], [0, 2], [0, 1]], 0)
        told = outcomes(exam, [("enter", 1, 1, 10), ("enter", 2, 2, 10), ("enter", 2, 1, 20), ("enter", 1, 2, 20)])
        self.assert_same(told, [0, 0, 3, 0])
        self.assert_answers(exam, due=[[2, 3]], marks=[[10, 1, [[1, 10], [2, 20]]], None], left=[0, 0, 0])

    def test_entering_gives_no_reading_back(self):
        exam = dealt_exam([1, 1], [[0, 2], [0, 2], [0, 1]], 0)
        told = outcomes(exam, [("enter", 1, 1, 10), ("enter", 1, 2, 20), ("enter", 1, 3, 30), ("enter", 2, 1, 10),
                               ("enter", 2, 2, 20)])
        self.assert_same(told, [0, 3, 0, 0, 0])
        self.assert_answers(exam, left=[0, 0, 0], due=[], marks=[[20, 1, [[1, 10], [2, 20], [3, 30]]],
                                                                 [10, 1, [[1, 10], [2, 20]]]])

    def test_a_paper_without_a_third_reader_stays_done(self):
        exam = dealt_exam([1, 1], [[0, 2], [0, 2], [0, 1]], 0)
        outcomes(exam, [("enter", 2, 1, 9), ("enter", 2, 2, 7), ("enter", 1, 1, 10), ("enter", 1, 2, 20)])
        done = [10, 1, [[1, 10], [2, 20]]]
        self.assert_answers(exam, marks=[done, None], due=[[2, 3]])
        exam.enter(2, 3, 8)
        self.assert_answers(exam, marks=[done, [8, 1, [[1, 9], [2, 7], [3, 8]]]], due=[])

    def test_readings_left_of_the_dealing_serve_for_third_readings(self):
        exam = dealt_exam([1, 2, 3], [[1, 3], [2, 3], [3, 3]], 0)
        self.assert_answers(exam, dealing=[[2, 3], [1, 3], [1, 2]], left=[1, 1, 1])
        for paper, row in ((1, (2, 3)), (2, (1, 3)), (3, (1, 2))):
            self.assert_same([exam.enter(paper, reader, reader) for reader in row], [0, 0])
        exam = dealt_exam([4, 2, 3], [[1, 3], [2, 3], [3, 3]], 0)
        self.assert_answers(exam, dealing=[[1, 2], [1, 3], [1, 2]], left=[0, 1, 2])
        self.assert_same([exam.enter(1, reader, reader) for reader in (1, 2)], [0, 3])
        self.assert_answers(exam, left=[0, 1, 1])

    def test_a_mark_never_changes(self):
        exam = dealt_exam([1] * 5, [[0, 5], [0, 5], [0, 3]], 5)
        points = {1: (10, 15), 2: (10, 16), 3: (0, 100), 4: (50, 50), 5: (99, 3)}
        known = {}
        for paper in (2, 1, 5, 4, 3):
            for reader in (2, 1):
                exam.enter(paper, reader, points[paper][reader - 1])
                for place, mark in enumerate(exam.marks()):
                    if mark is not None:
                        self.assert_same(mark, known.setdefault(place, mark))
        for paper, reader in exam.due():
            exam.enter(paper, reader, 12)
            for place, mark in enumerate(exam.marks()):
                if mark is not None:
                    self.assert_same(mark, known.setdefault(place, mark))
        self.assertEqual(sorted(known), [0, 1, 2, 3, 4])

    def test_all_small_points_and_steps(self):
        for step, one, other, third in itertools.product((0, 1, 2), range(4), range(4), range(4)):
            exam = dealt_exam([3], [FREE, FREE, FREE], step)
            exam.enter(1, 1, one)
            named = exam.enter(1, 2, other)
            if abs(one - other) <= step:
                self.assert_same(named, 0)
                total = one + other
                fraction = [total // 2, 1] if total % 2 == 0 else [total, 2]
                self.assert_answers(exam, marks=[fraction + [[[1, one], [2, other]]]])
            else:
                self.assert_same(named, 3)
                exam.enter(1, 3, third)
                self.assert_answers(exam, marks=[[sorted([one, other, third])[1], 1,
                                                  [[1, one], [2, other], [3, third]]]])


class DueTest(PromiseCase):
    def test_by_papers_and_for_one_paper_by_readers(self):
        exam = dealt_exam([1, 2, 3], [[0, 3], [0, 3], [0, 9]], 0)
        self.assert_answers(exam, due=[[1, 1], [1, 2], [2, 1], [2, 2], [3, 1], [3, 2]])
        outcomes(exam, [("enter", 2, 2, 5), ("enter", 2, 1, 8)])
        self.assert_answers(exam, due=[[1, 1], [1, 2], [2, 3], [3, 1], [3, 2]])
        outcomes(exam, [("enter", 3, 2, 5), ("enter", 1, 1, 8)])
        self.assert_answers(exam, due=[[1, 2], [2, 3], [3, 1]])
        outcomes(exam, [("enter", 3, 1, 5), ("enter", 1, 2, 1)])
        self.assert_answers(exam, due=[[1, 3], [2, 3]])

    def test_what_is_due_can_be_entered_and_nothing_else(self):
        exam = dealt_exam([1, 2, 3], [[0, 3], [2, 3], [3, 9], [1, 3]], 1)
        points = 0
        while exam.due() != []:
            due = exam.due()
            for paper, reader in itertools.product(range(1, 4), range(1, 5)):
                if [paper, reader] not in due:
                    self.assert_refused(exam, ("enter", paper, reader, 50), NotDue)
            points += 7
            third = exam.enter(due[-1][0], due[-1][1], points)
            wanted = due[:-1] + ([[due[-1][0], third]] if third > 0 else [])
            self.assert_answers(exam, due=sorted(wanted))
        self.assertNotIn(None, exam.marks())


if __name__ == "__main__":
    unittest.main()
