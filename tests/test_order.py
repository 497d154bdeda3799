"""Point 20: on which orders the marks do not hang."""

import itertools
import random
import unittest

from secondread.marks import agree
from tests.helper import PromiseCase, dealt_exam, exam_with, full_exams


# The points that a reading gets in every exam of one test, whenever it is entered.
def points_of(paper, reader, agreeing, step):
    if paper in agreeing:
        return 40 + (paper + reader) % (step + 1)
    return (13 * paper + 29 * reader) % 101


# The papers that differ, in the order in which they get the later one of their two readings.
def later_ones(order, differing):
    seen = [paper for paper, reader in order]
    return tuple(paper for place, paper in enumerate(seen) if paper in differing and paper in seen[:place])


class AnyOrderTest(PromiseCase):
    def marks_by(self, papers, readers, step, points, order, source):
        exam = dealt_exam(papers, readers, step)
        thirds = []
        for paper, reader in order:
            third = exam.enter(paper, reader, points[paper, reader])
            if third > 0:
                thirds.append((paper, third))
            # A third reading comes in at some time behind the deed that named its reader.
            while thirds and source.random() < 0.4:
                row = thirds.pop(source.randrange(len(thirds)))
                self.assert_same(exam.enter(row[0], row[1], points[row]), 0)
        source.shuffle(thirds)
        for row in thirds:
            self.assert_same(exam.enter(row[0], row[1], points[row]), 0)
        self.assert_answers(exam, due=[])
        return exam.marks()

    def differing(self, rows, points, step):
        return [paper for paper, row in enumerate(rows, start=1)
                if not agree(points[paper, row[0]], points[paper, row[1]], step)]

    def all_points(self, papers, readers, agreeing, step):
        return {(paper, reader): points_of(paper, reader, agreeing, step)
                for paper in range(1, len(papers) + 1) for reader in range(1, len(readers) + 1)}

    def test_all_orders_of_three_papers(self):
        # The third reader suffices for one paper of the two that differ: their order counts, and nothing else does.
        papers = [1, 1, 1]
        readers = [[0, 3], [0, 3], [0, 1]]
        points = self.all_points(papers, readers, [2], 4)
        source = random.Random(20)
        rows = dealt_exam(papers, readers, 4).dealing()
        differing = self.differing(rows, points, 4)
        self.assertEqual(differing, [1, 3])
        found = {}
        due = [(paper, reader) for paper, row in enumerate(rows, start=1) for reader in row]
        for order in itertools.permutations(due):
            marks = self.marks_by(papers, readers, 4, points, order, source)
            self.assert_same(marks, found.setdefault(later_ones(order, differing), marks), order)
        self.assertEqual(sorted(found), [(1, 3), (3, 1)])
        self.assertNotEqual(found[1, 3], found[3, 1])
        self.assertEqual([len(mark[2]) for mark in found[1, 3]], [3, 2, 2])
        self.assertEqual([len(mark[2]) for mark in found[3, 1]], [2, 2, 3])

    def test_all_orders_where_all_agree(self):
        papers = [1, 2, 3]
        readers = [[1, 3], [2, 3], [0, 3], [0, 30]]
        points = self.all_points(papers, readers, [1, 2, 3], 4)
        source = random.Random(21)
        rows = dealt_exam(papers, readers, 4).dealing()
        due = [(paper, reader) for paper, row in enumerate(rows, start=1) for reader in row]
        told = [self.marks_by(papers, readers, 4, points, order, source) for order in itertools.permutations(due)]
        for marks in told:
            self.assert_same(marks, told[0])
        self.assertEqual([len(mark[2]) for mark in told[0]], [2, 2, 2])

    def test_many_orders_of_full_exams(self):
        source = random.Random(22)
        tried = 0
        for papers, readers in full_exams(60):
            if exam_with(papers, readers).against() is not None:
                continue
            tried += 1
            agreeing = [paper for paper in range(1, 11) if source.random() < 0.4]
            points = self.all_points(papers, readers, agreeing, 6)
            rows = dealt_exam(papers, readers, 6).dealing()
            differing = self.differing(rows, points, 6)
            source.shuffle(differing)
            first = None
            for turn in range(12):
                order = self.some_order(source, rows, differing)
                self.assertEqual(later_ones(order, differing), tuple(differing))
                marks = self.marks_by(papers, readers, 6, points, order, source)
                first = first or marks
                self.assert_same(marks, first)
        self.assertGreater(tried, 10)

    # Any order of all readings in which the papers that differ get their later one in the order handed in.
    def some_order(self, source, rows, differing):
        waiting = [(paper, reader) for paper, row in enumerate(rows, start=1) for reader in row]
        differing = list(differing)
        order = []
        while waiting:
            row = source.choice(waiting)
            is_later = [paper for paper, reader in waiting].count(row[0]) == 1
            if is_later and row[0] in differing[1:]:
                continue
            if is_later and row[0] in differing:
                differing.remove(row[0])
            waiting.remove(row)
            order.append(row)
        return order


if __name__ == "__main__":
    unittest.main()
