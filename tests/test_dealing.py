"""Points 1, 7, 8, 9 and 16: dealings, the first one of them, and what is left behind the rows."""

import itertools
import unittest

from secondread.against import first_against
from secondread.dealing import first_dealing, is_dealing, left_after
from tests.helper import PromiseCase, exams_of_all_sizes, first_by_search, full_exams, small_exams


def fits(papers, readers, rows):
    counts = [0] * len(readers)
    for house, row in zip(papers, rows):
        for reader in row:
            counts[reader - 1] += 1
            if readers[reader - 1][0] == house:
                return False
    return all(count <= limit for count, (house, limit) in zip(counts, readers))


def first_of_all_rows(papers, readers):
    pairs = list(itertools.combinations(range(1, len(readers) + 1), 2))
    for rows in itertools.product(pairs, repeat=len(papers)):
        if fits(papers, readers, rows):
            return [list(row) for row in rows]
    return None


class IsDealingTest(PromiseCase):
    papers = [1, 2, 3]
    readers = [[1, 2], [2, 2], [0, 2], [3, 30]]
    rows = [[2, 3], [1, 4], [1, 3]]

    def assert_dealing(self, rows, wanted):
        self.assertIs(is_dealing(self.papers, self.readers, rows), wanted, rows)

    def test_the_right_rows(self):
        self.assert_dealing(self.rows, True)
        self.assert_dealing([[2, 4], [3, 4], [1, 3]], True)

    def test_too_few_and_too_many_rows(self):
        self.assert_dealing(self.rows[:2], False)
        self.assert_dealing(self.rows[1:], False)
        self.assert_dealing([], False)
        self.assert_dealing(self.rows + [[2, 4]], False)
        self.assert_dealing(self.rows + self.rows, False)

    def test_the_rows_belong_to_their_papers(self):
        self.assert_dealing([[1, 4], [2, 3], [1, 3]], False)

    def test_no_papers_and_no_rows(self):
        self.assertIs(is_dealing([], [], []), True)
        self.assertIs(is_dealing([], [[0, 0], [1, 5]], []), True)

    def test_no_papers_and_a_row(self):
        self.assertIs(is_dealing([], [[0, 5], [0, 5]], [[1, 2]]), False)

    def test_no_readers(self):
        self.assertIs(is_dealing([1], [], []), False)
        self.assertIs(is_dealing([1], [], [[1, 2]]), False)
        self.assertIs(is_dealing([1], [], [[0, 0]]), False)

    def test_the_same_reader_twice_in_a_row(self):
        self.assert_dealing([[3, 3], [1, 4], [1, 2]], False)
        self.assert_dealing([[2, 3], [4, 4], [1, 3]], False)
        self.assertIs(is_dealing([1], [[0, 30], [0, 30]], [[1, 1]]), False)

    def test_the_greater_number_first(self):
        self.assert_dealing([[3, 2], [1, 4], [1, 3]], False)
        self.assert_dealing([[2, 3], [4, 1], [1, 3]], False)
        self.assert_dealing([[2, 3], [1, 4], [3, 1]], False)

    def test_a_reader_of_the_papers_house(self):
        self.assert_dealing([[1, 3], [1, 4], [2, 3]], False)
        self.assert_dealing([[2, 3], [1, 2], [1, 3]], False)
        self.assert_dealing([[2, 3], [1, 3], [1, 4]], False)

    def test_a_reader_beyond_the_limit_and_just_at_it(self):
        papers = [1, 2, 3]
        rows = [[1, 2], [1, 2], [1, 2]]
        for limit, wanted in ((0, False), (2, False), (3, True), (4, True)):
            self.assertIs(is_dealing(papers, [[0, limit], [0, 30]], rows), wanted, limit)
            self.assertIs(is_dealing(papers, [[0, 30], [0, limit]], rows), wanted, limit)

    def test_a_limit_of_0(self):
        self.assertIs(is_dealing([1], [[0, 1], [0, 0], [0, 1]], [[1, 2]]), False)
        self.assertIs(is_dealing([1], [[0, 1], [0, 0], [0, 1]], [[1, 3]]), True)

    def test_numbers_that_no_reader_has(self):
        papers = [1]
        readers = [[0, 5], [0, 5], [0, 5]]
        for number in (0, -1, -2, -3, -4, -10 ** 30, 4, 5, 100, 10 ** 30):
            for known in (1, 2, 3):
                self.assertIs(is_dealing(papers, readers, [[number, known]]), False, (number, known))
                self.assertIs(is_dealing(papers, readers, [[known, number]]), False, (known, number))
        for row in ([-2, -1], [-1, 0], [4, 5], [0, 4], [-10 ** 30, 10 ** 30]):
            self.assertIs(is_dealing(papers, readers, [row]), False, row)

    def test_numbers_that_no_reader_has_in_the_last_row(self):
        for row in ([0, 1], [-3, 3], [1, 5], [1, 10 ** 30]):
            self.assert_dealing(self.rows[:2] + [row], False)

    def test_twenty_rows(self):
        readers = [[0, 30]] * 8
        self.assertIs(is_dealing([1] * 10, readers, [[7, 8]] * 20), False)
        self.assertIs(is_dealing([1] * 10, readers, [[7, 8]] * 10), True)

    def test_the_same_as_by_counting_for_all_rows_of_few(self):
        for papers, readers in small_exams(25):
            pairs = list(itertools.product(range(1, len(readers) + 1), repeat=2))
            for rows in itertools.product(pairs, repeat=min(len(papers), 2)):
                rising = all(first < second for first, second in rows)
                wanted = rising and fits(papers[:2], readers, rows)
                told = is_dealing(papers[:2], readers, [list(row) for row in rows])
                self.assertIs(told, wanted, (papers[:2], readers, rows))

    def test_what_is_handed_in_is_not_changed(self):
        self.assert_leaves_alone(is_dealing, [1, 2], [[2, 3], [1, 3], [0, 2]], [[1, 3], [2, 3]])
        self.assert_leaves_alone(is_dealing, [1, 2], [[2, 3], [1, 3], [0, 2]], [[3, 1], [2, 2]])
        self.assert_leaves_alone(is_dealing, [1, 2], [[2, 3], [1, 3], [0, 1]], [[1, 3], [2, 3]])
        self.assert_leaves_alone(is_dealing, [], [], [])


class FirstDealingTest(PromiseCase):
    def assert_told(self, papers, readers, wanted):
        told = first_dealing(papers, readers)
        if wanted is None:
            self.assertIs(told, None, (papers, readers))
        else:
            self.assertEqual(told, wanted, (papers, readers))
            self.assert_rows(told, wanted)
            self.assertIs(is_dealing(papers, readers, told), True)

    def test_no_papers(self):
        self.assert_told([], [], [])
        self.assert_told([], [[0, 0]], [])
        self.assert_told([], [[0, 30]] * 8, [])

    def test_none_where_there_is_none(self):
        self.assert_told([1], [], None)
        self.assert_told([1], [[0, 30]], None)
        self.assert_told([1], [[0, 30], [1, 30]], None)
        self.assert_told([1], [[0, 30], [0, 0]], None)
        self.assert_told([1, 2], [[0, 2], [0, 1]], None)
        self.assert_told([1, 2, 2], [[1, 30], [0, 30], [1, 30]], None)

    def test_limits_that_just_suffice(self):
        self.assert_told([1, 2], [[0, 2], [0, 2]], [[1, 2], [1, 2]])
        self.assert_told([1, 2], [[0, 1], [0, 1], [0, 1], [0, 1]], [[1, 2], [3, 4]])
        self.assert_told([1, 2], [[0, 2], [0, 1], [0, 1]], [[1, 2], [1, 3]])

    def test_readers_of_the_papers_house_are_passed_over(self):
        self.assert_told([1, 2], [[1, 5], [2, 5], [0, 5]], [[2, 3], [1, 3]])

    def test_a_limit_of_0_is_passed_over(self):
        self.assert_told([1], [[0, 0], [0, 1], [0, 0], [0, 1]], [[2, 4]])

    def test_a_later_paper_needs_the_least_reader(self):
        self.assert_told([1, 2], [[0, 1], [2, 1], [0, 1], [2, 1]], [[2, 4], [1, 3]])

    def test_a_later_paper_needs_the_second_reader(self):
        self.assert_told([1, 2], [[0, 2], [0, 1], [2, 1]], [[1, 3], [1, 2]])

    def test_the_first_paper_takes_the_least_at_the_cost_of_the_others(self):
        self.assert_told([1, 1, 1], [[0, 1], [0, 1], [0, 2], [0, 2]], [[1, 2], [3, 4], [3, 4]])

    def test_few_papers_and_readers_as_by_going_through_all_rows(self):
        told = []
        for papers, readers in small_exams(300):
            wanted = first_of_all_rows(papers, readers)
            self.assert_told(papers, readers, wanted)
            told.append(wanted)
        self.assertGreater(told.count(None), 50)
        self.assertGreater(len(told) - told.count(None), 50)

    def test_all_of_two_papers_and_three_readers(self):
        rows = list(itertools.product((0, 1, 2), (0, 1, 2)))
        for papers in ([1], [1, 1], [1, 2]):
            for readers in itertools.product(rows, repeat=3):
                readers = [list(row) for row in readers]
                self.assert_told(papers, readers, first_of_all_rows(papers, readers))

    def test_what_is_told_is_a_dealing(self):
        for papers, readers in exams_of_all_sizes():
            told = first_dealing(papers, readers)
            if told is not None:
                self.assertIs(is_dealing(papers, readers, told), True, (papers, readers, told))
                self.assertTrue(fits(papers, readers, told))

    def test_either_the_dealing_or_the_set_against_it(self):
        for papers, readers in small_exams(300) + exams_of_all_sizes() + full_exams(40):
            dealt = first_dealing(papers, readers) is not None
            against = first_against(papers, readers) is not None
            self.assertNotEqual(dealt, against, (papers, readers))

    def test_what_is_handed_in_is_not_changed(self):
        self.assert_leaves_alone(first_dealing, [2, 1, 3], [[2, 5], [0, 3], [1, 1], [0, 1]])
        self.assert_leaves_alone(first_dealing, [2, 1, 3], [[2, 5], [0, 1], [1, 1]])
        self.assert_leaves_alone(first_dealing, [], [[2, 5], [0, 1], [1, 1]])

    def test_the_answer_belongs_to_the_caller(self):
        self.assert_shares_no_list(first_dealing, [], [[0, 5]])
        self.assert_shares_no_list(first_dealing, [1, 1, 1], [[0, 5], [0, 5]])
        self.assert_shares_no_list(first_dealing, [2, 1, 3], [[2, 5], [0, 3], [1, 1], [0, 1]])

    def test_nothing_somewhat_beyond_the_bounds_is_refused(self):
        self.assert_told([7] * 11, [[7, 31], [0, 31]] + [[8, 31]] * 7, [[2, 3]] * 11)


class TenPapersAndEightReadersTest(PromiseCase):
    def told_within_a_moment(self, papers, readers):
        told = self.within_a_moment(first_dealing, papers, readers)
        dealt = told is not None
        self.assertNotEqual(dealt, first_against(papers, readers) is not None)
        if dealt:
            self.assertIs(is_dealing(papers, readers, told), True)
        return told

    def test_wide_limits(self):
        papers = [1, 2, 3, 4, 5, 6, 1, 2, 3, 4]
        self.assert_rows(self.told_within_a_moment(papers, [[0, 30]] * 8), [[1, 2]] * 10)
        readers = [[house, 30] for house in (1, 2, 3, 4, 5, 6, 0, 0)]
        self.assert_rows(self.told_within_a_moment(papers, readers),
                         [[2, 3], [1, 3], [1, 2], [1, 2], [1, 2], [1, 2], [2, 3], [1, 3], [1, 2], [1, 2]])

    def test_wide_limits_and_a_last_paper_that_one_reader_alone_may_read(self):
        papers = [1] * 9 + [6]
        self.assertIs(self.told_within_a_moment(papers, [[6, 30]] * 7 + [[0, 30]]), None)
        self.assert_rows(self.told_within_a_moment(papers, [[6, 30]] * 6 + [[0, 30]] * 2), [[1, 2]] * 9 + [[7, 8]])

    def test_limits_that_just_suffice(self):
        papers = [1, 2, 3, 4, 5, 6, 1, 2, 3, 4]
        for limits in ((3, 3, 3, 3, 2, 2, 2, 2), (2, 2, 2, 2, 3, 3, 3, 3), (1, 4, 1, 4, 1, 4, 1, 4),
                       (0, 10, 0, 0, 10, 0, 0, 0)):
            readers = [[0, limit] for limit in limits]
            told = self.told_within_a_moment(papers, readers)
            self.assert_rows(told, first_by_search(papers, readers))
            self.assert_numbers(left_after(readers, told), [0] * 8)

    def test_limits_that_just_do_not(self):
        papers = [1, 2, 3, 4, 5, 6, 1, 2, 3, 4]
        for limits in ((3, 3, 3, 3, 2, 2, 2, 1), (1, 2, 2, 2, 3, 3, 3, 3), (1, 4, 1, 4, 1, 4, 1, 3),
                       (0, 10, 0, 0, 9, 0, 0, 0)):
            self.assertIs(self.told_within_a_moment(papers, [[0, limit] for limit in limits]), None, limits)

    def test_houses_and_limits_that_just_suffice_and_just_do_not(self):
        papers = [1, 1, 1, 1, 1, 2, 2, 2, 2, 2]
        readers = [[0, 2], [1, 3], [1, 3], [1, 3], [2, 3], [2, 3], [2, 3], [0, 0]]
        told = self.told_within_a_moment(papers, readers)
        self.assert_rows(told, first_by_search(papers, readers))
        for place in range(7):
            short = [list(row) for row in readers]
            short[place][1] -= 1
            self.assertIs(self.told_within_a_moment(papers, short), None, short)

    def test_the_last_papers_need_the_least_readers(self):
        papers = [1] * 5 + [2] * 5
        readers = [[0, 5], [0, 5]] + [[2, 2]] * 5 + [[2, 0]]
        told = self.told_within_a_moment(papers, readers)
        self.assert_rows(told, [[3, 4], [3, 4], [5, 6], [5, 7], [6, 7], [1, 2], [1, 2], [1, 2], [1, 2], [1, 2]])

    def test_as_by_a_search(self):
        told = []
        for papers, readers in full_exams(60):
            told.append(self.told_within_a_moment(papers, readers))
            self.assertEqual(told[-1], first_by_search(papers, readers), (papers, readers))
        self.assertGreater(told.count(None), 10)
        self.assertGreater(len(told) - told.count(None), 10)


class LeftAfterTest(PromiseCase):
    def test_no_rows(self):
        self.assert_numbers(left_after([], []), [])
        self.assert_numbers(left_after([[0, 0], [3, 7], [6, 30]], []), [0, 7, 30])

    def test_a_reader_in_no_row_in_one_and_in_several(self):
        readers = [[0, 5], [1, 5], [2, 5], [3, 5]]
        self.assert_numbers(left_after(readers, [[1, 2]]), [4, 4, 5, 5])
        self.assert_numbers(left_after(readers, [[1, 4], [1, 2], [1, 4]]), [2, 4, 5, 3])

    def test_a_row_counts_whichever_stands_first(self):
        self.assert_numbers(left_after([[0, 5], [1, 5], [2, 5]], [[3, 1], [2, 1]]), [3, 4, 4])

    def test_nought_and_below(self):
        self.assert_numbers(left_after([[0, 2], [0, 1], [0, 0]], [[1, 2], [1, 3]]), [0, 0, -1])
        self.assert_numbers(left_after([[0, 0], [0, 30]], [[1, 2]] * 20), [-20, 10])

    def test_the_house_plays_no_part(self):
        self.assert_numbers(left_after([[1, 2], [2, 2]], [[1, 2], [1, 2]]), [0, 0])

    def test_what_is_handed_in_is_not_changed(self):
        self.assert_leaves_alone(left_after, [[0, 2], [0, 1], [0, 0]], [[1, 2], [3, 1]])
        self.assert_leaves_alone(left_after, [[0, 2], [0, 1]], [])

    def test_the_answer_belongs_to_the_caller(self):
        self.assert_shares_no_list(left_after, [[0, 2], [0, 1]], [])
        self.assert_shares_no_list(left_after, [[0, 2], [0, 1]], [[1, 2]])


if __name__ == "__main__":
    unittest.main()
