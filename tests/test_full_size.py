"""Ten papers and eight readers, through the exam and through the desk, each within a moment."""

import unittest

from secondread.desk import answers
from tests.helper import PromiseCase, exam_with, first_by_search

PAPERS = [1, 2, 3, 4, 5, 6, 1, 2, 3, 4]
WIDE = [[0, 30]] * 8
WIDE_WITH_HOUSES = [[house, 30] for house in (1, 2, 3, 4, 5, 6, 0, 0)]
JUST_ENOUGH = [[0, limit] for limit in (3, 3, 3, 3, 2, 2, 2, 2)]
ONE_SHORT = [[0, limit] for limit in (3, 3, 3, 3, 2, 2, 2, 1)]
ONE_MORE = [[0, limit] for limit in (3, 3, 3, 3, 2, 2, 2, 3)]
HOUSES_JUST_ENOUGH = [[0, 2], [1, 3], [1, 3], [1, 3], [2, 3], [2, 3], [2, 3], [0, 0]]
TWO_HOUSES = [1, 1, 1, 1, 1, 2, 2, 2, 2, 2]


def points_of(paper, reader):
    return (37 * paper + 23 * reader) % 101


class ThroughTheExamTest(PromiseCase):
    def through(self, papers, readers, step):
        exam = exam_with(papers, readers, step)
        against = exam.against()
        dealt = exam.deal()
        named = []
        while exam.due() != []:
            paper, reader = exam.due()[-1]
            named.append(exam.enter(paper, reader, points_of(paper, reader)))
        return exam, against, dealt, named

    def assert_all_read(self, papers, readers, step):
        exam, against, dealt, named = self.within_a_moment(self.through, papers, readers, step)
        self.assertIs(dealt, True)
        self.assertIs(against, None)
        self.assert_answers(exam, dealing=first_by_search(papers, readers), due=[])
        for row, mark in zip(exam.dealing(), exam.marks()):
            self.assertEqual([reading[0] for reading in mark[2]][:2], row)
        thirds = [number for number in named if number > 0]
        self.assertEqual(sum(len(mark[2]) for mark in exam.marks()), 20 + len(thirds))
        self.assertEqual(sum(exam.left()), sum(limit for house, limit in readers) - 20 - len(thirds))
        self.assertGreaterEqual(min(exam.left()), 0)
        return exam, thirds

    def test_wide_limits(self):
        for readers in (WIDE, WIDE_WITH_HOUSES):
            exam, thirds = self.assert_all_read(PAPERS, readers, 100)
            self.assertEqual(thirds, [])
            exam, thirds = self.assert_all_read(PAPERS, readers, 0)
            self.assertEqual(len(thirds), 10)

    def test_limits_that_just_suffice(self):
        for papers, readers in ((PAPERS, JUST_ENOUGH), (TWO_HOUSES, HOUSES_JUST_ENOUGH)):
            for step in (0, 100):
                exam, thirds = self.assert_all_read(papers, readers, step)
                self.assertEqual(thirds, [])
                self.assert_answers(exam, left=[0] * 8)

    def test_one_reading_more_than_the_dealing_needs(self):
        exam, thirds = self.assert_all_read(PAPERS, ONE_MORE, 0)
        self.assertEqual(thirds, [8])
        self.assert_answers(exam, left=[0] * 8)

    def test_limits_that_just_do_not(self):
        exam, against, dealt, named = self.within_a_moment(self.through, PAPERS, ONE_SHORT, 0)
        self.assertIs(dealt, False)
        self.assert_same(against, [1, 2, 3, 4, 5, 6, 7, 8, 9, 10])
        self.assert_answers(exam, dealing=None, due=[], marks=[None] * 10, left=[3, 3, 3, 3, 2, 2, 2, 1])
        for place in range(7):
            readers = [list(row) for row in HOUSES_JUST_ENOUGH]
            readers[place][1] -= 1
            exam, against, dealt, named = self.within_a_moment(self.through, TWO_HOUSES, readers, 0)
            self.assertIs(dealt, False)
            self.assertNotEqual(against, None)


class ThroughTheDeskTest(PromiseCase):
    def rows_for(self, papers, readers):
        rows = ["paper %d" % house for house in papers] + ["reader %d %d" % tuple(row) for row in readers]
        return rows + ["against", "deal", "dealing", "due"]

    def rows_of_readings(self, dealing):
        return ["enter %d %d %d" % (paper, reader, points_of(paper, reader))
                for paper, row in enumerate(dealing, start=1) for reader in row] + ["marks", "due", "left"]

    def test_wide_limits(self):
        rows = self.rows_for(PAPERS, WIDE) + self.rows_of_readings([[1, 2]] * 10)
        thirds = ["enter %d 3 50" % paper for paper in range(10, 0, -1)] + ["marks", "due", "left"]
        told = self.within_a_moment(answers, rows + thirds)
        self.assertEqual(told[18:22], ["none", "dealt", " ".join("%d:1+2" % paper for paper in range(1, 11)),
                                       " ".join("%d:1 %d:2" % (paper, paper) for paper in range(1, 11))])
        self.assertEqual(told[22:42], ["0", "3"] * 10)
        self.assertEqual(told[42:45], [" ".join("%d:open" % paper for paper in range(1, 11)),
                                       " ".join("%d:3" % paper for paper in range(1, 11)), "20 20 20 30 30 30 30 30"])
        marks = []
        for paper in range(1, 11):
            one = points_of(paper, 1)
            other = points_of(paper, 2)
            marks.append("%d:%d/1(1=%d,2=%d,3=50)" % (paper, sorted([one, other, 50])[1], one, other))
        self.assertEqual(told[45:], ["0"] * 10 + [" ".join(marks), "none", "20 20 20 30 30 30 30 30"])

    def test_limits_that_just_suffice(self):
        dealing = first_by_search(PAPERS, JUST_ENOUGH)
        told = self.within_a_moment(answers, self.rows_for(PAPERS, JUST_ENOUGH) + self.rows_of_readings(dealing))
        self.assertEqual(told[18:21], ["none", "dealt", "1:1+2 2:1+2 3:1+2 4:3+4 5:3+4 6:3+4 7:5+6 8:5+6 9:7+8 10:7+8"])
        self.assertEqual(told[22:42], ["0"] * 20)
        marks = []
        for paper, (first, second) in enumerate(dealing, start=1):
            one = points_of(paper, first)
            other = points_of(paper, second)
            marks.append("%d:%d/1(%d=%d,%d=%d)" % (paper, min(one, other), first, one, second, other))
        self.assertEqual(told[42:], [" ".join(marks), "none", "0 0 0 0 0 0 0 0"])

    def test_limits_that_just_do_not(self):
        told = self.within_a_moment(answers, self.rows_for(PAPERS, ONE_SHORT) + ["enter 1 1 5", "left", "marks"])
        self.assertEqual(told[18:], ["1 2 3 4 5 6 7 8 9 10", "no dealing", "not dealt", "none", "refused: out of time",
                                     "3 3 3 3 2 2 2 1", " ".join("%d:open" % paper for paper in range(1, 11))])

    def test_two_hundred_rows(self):
        rows = self.rows_for(PAPERS, ONE_SHORT)
        rows = rows + ["deal"] * (200 - len(rows))
        told = self.within_a_moment(answers, rows)
        self.assertEqual(told[22:], ["no dealing"] * (200 - 22))


if __name__ == "__main__":
    unittest.main()
