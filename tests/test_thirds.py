"""Points 1, 3 and 12: the third reader for a paper."""

import itertools
import unittest

from secondread.thirds import third_for
from tests.helper import PromiseCase, exams_of_all_sizes


class ThirdForTest(PromiseCase):
    def assert_third(self, papers, readers, left, paper, row, wanted):
        told = third_for(papers, readers, left, paper, row)
        self.assert_whole(told)
        self.assertEqual(told, wanted, (papers, readers, left, paper, row))

    def test_the_least_numbered_one_of_several(self):
        readers = [[0, 5], [0, 5], [0, 5], [0, 5], [0, 5]]
        left = [1, 1, 1, 1, 1]
        self.assert_third([1], readers, left, 1, [1, 2], 3)
        self.assert_third([1], readers, left, 1, [1, 3], 2)
        self.assert_third([1], readers, left, 1, [2, 3], 1)
        self.assert_third([1], readers, left, 1, [4, 5], 1)

    def test_who_has_the_most_left_plays_no_part(self):
        self.assert_third([1], [[0, 9]] * 5, [9, 9, 1, 9, 30], 1, [1, 2], 3)

    def test_a_reader_of_the_papers_house_is_passed_over(self):
        readers = [[0, 5], [0, 5], [2, 5], [1, 5]]
        self.assert_third([1, 2], readers, [5, 5, 5, 5], 1, [1, 2], 3)
        self.assert_third([1, 2], readers, [5, 5, 5, 5], 2, [1, 2], 4)

    def test_a_reader_of_no_house_fits_every_paper(self):
        readers = [[0, 5], [0, 5], [0, 5]]
        for house in range(1, 7):
            self.assert_third([house], readers, [5, 5, 5], 1, [1, 2], 3)

    def test_each_of_the_two_of_the_row_is_passed_over(self):
        readers = [[0, 5], [0, 5], [0, 5]]
        for row in ([1, 2], [1, 3], [2, 3], [2, 1], [3, 1], [3, 2]):
            self.assert_third([1], readers, [5, 5, 5], 1, row, 6 - sum(row))

    def test_one_with_0_left_is_passed_over(self):
        readers = [[0, 5], [0, 5], [0, 5], [0, 5]]
        self.assert_third([1], readers, [5, 5, 0, 1], 1, [1, 2], 4)
        self.assert_third([1], readers, [5, 5, 1, 0], 1, [1, 2], 3)

    def test_the_readings_left_count_and_not_the_limits(self):
        self.assert_third([1], [[0, 0], [0, 0], [0, 0]], [0, 0, 1], 1, [1, 2], 3)
        self.assert_third([1], [[0, 30], [0, 30], [0, 30]], [30, 30, 0], 1, [1, 2], 0)
        self.assert_third([1], [[0, 30], [0, 30], [0, 30], [0, 0]], [30, 30, 0, 1], 1, [1, 2], 4)
        self.assert_third([1], [[0, 1], [0, 1], [0, 1]], [30, 30, 30], 1, [1, 2], 3)

    def test_nobody_who_fits(self):
        self.assert_third([1], [[0, 5], [0, 5]], [4, 4], 1, [1, 2], 0)
        self.assert_third([1], [[0, 5], [0, 5], [1, 5]], [4, 4, 5], 1, [1, 2], 0)
        self.assert_third([1], [[0, 5], [0, 5], [0, 5]], [4, 4, 0], 1, [1, 2], 0)
        self.assert_third([1, 6], [[1, 5], [0, 5], [6, 5], [0, 5]], [4, 4, 5, 0], 2, [1, 2], 0)

    def test_the_last_of_eight(self):
        readers = [[0, 5], [3, 5], [1, 30], [1, 30], [2, 0], [5, 0], [1, 30], [4, 2]]
        self.assert_third([1], readers, [5, 5, 30, 30, 0, 0, 30, 2], 1, [1, 2], 8)

    def test_all_of_four_readers(self):
        houses = [1, 0, 2, 1]
        for left in itertools.product((0, 1, 7), repeat=4):
            for row in itertools.combinations((1, 2, 3, 4), 2):
                for paper, house in ((1, 1), (2, 2), (3, 3)):
                    fit = [reader for reader in (1, 2, 3, 4)
                           if houses[reader - 1] != house and reader not in row and left[reader - 1] >= 1]
                    readers = [[number, 3] for number in houses]
                    self.assert_third([1, 2, 3], readers, list(left), paper, list(row), min(fit, default=0))

    def test_whoever_is_told_fits_and_nobody_below_does(self):
        for papers, readers in exams_of_all_sizes():
            if len(readers) < 2:
                continue
            left = [limit for house, limit in readers]
            for paper, house in enumerate(papers, start=1):
                told = third_for(papers, readers, left, paper, [1, 2])
                fit = [reader for reader in range(3, len(readers) + 1)
                       if readers[reader - 1][0] != house and left[reader - 1] > 0]
                self.assertEqual(told, fit[0] if fit else 0)

    def test_what_is_handed_in_is_not_changed(self):
        self.assert_leaves_alone(third_for, [2, 1], [[0, 5], [0, 5], [2, 5], [1, 5]], [4, 3, 5, 5], 2, [1, 2])
        self.assert_leaves_alone(third_for, [1], [[0, 5], [0, 5], [0, 5]], [4, 4, 0], 1, [2, 1])


if __name__ == "__main__":
    unittest.main()
