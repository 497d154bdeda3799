"""Points 1, 5 and 6: the room for a set, and the sets that are against the dealing."""

import itertools
import unittest

from secondread.against import first_against, is_against, room
from tests.helper import PromiseCase, exams_of_all_sizes, small_exams


def room_counted(papers, readers, chosen):
    total = 0
    for house, limit in readers:
        may = 0
        for paper in chosen:
            if papers[paper - 1] != house:
                may += 1
        total += limit if limit < may else may
    return total


def against_one_by_one(papers, readers):
    numbers = range(1, len(papers) + 1)
    for size in range(len(papers) + 1):
        for chosen in itertools.combinations(numbers, size):
            if room_counted(papers, readers, chosen) < 2 * size:
                return list(chosen)
    return None


class RoomTest(PromiseCase):
    def assert_room(self, papers, readers, chosen, wanted):
        told = room(papers, readers, chosen)
        self.assert_whole(told)
        self.assertEqual(told, wanted, (papers, readers, chosen))

    def test_the_empty_set_has_none(self):
        self.assert_room([], [], [], 0)
        self.assert_room([1, 2], [], [], 0)
        self.assert_room([], [[0, 5]], [], 0)
        self.assert_room([1, 2], [[0, 5], [1, 30], [2, 0]], [], 0)

    def test_no_readers(self):
        self.assert_room([1, 2], [], [1], 0)
        self.assert_room([1, 2], [], [1, 2], 0)

    def test_a_reader_of_the_papers_house(self):
        self.assert_room([3], [[3, 5]], [1], 0)
        self.assert_room([3, 3, 3], [[3, 5]], [1, 2, 3], 0)

    def test_a_reader_of_another_house(self):
        self.assert_room([3], [[4, 5]], [1], 1)
        self.assert_room([3, 3, 3], [[4, 5]], [1, 2, 3], 3)

    def test_a_reader_of_no_house(self):
        self.assert_room([3, 1, 6], [[0, 5]], [1], 1)
        self.assert_room([3, 1, 6], [[0, 5]], [1, 2, 3], 3)

    def test_a_reader_who_may_read_some_of_the_set(self):
        self.assert_room([1, 2, 1, 3], [[1, 5]], [1, 2, 3, 4], 2)
        self.assert_room([1, 2, 1, 3], [[2, 5]], [1, 2, 3, 4], 3)

    def test_only_papers_of_the_set_count(self):
        papers = [1, 2, 1, 3]
        for chosen, wanted in (([1], 0), ([2], 1), ([3], 0), ([4], 1), ([1, 3], 0), ([2, 3], 1), ([2, 4], 2)):
            self.assert_room(papers, [[1, 5]], chosen, wanted)

    def test_a_limit_below_at_and_above_what_the_reader_may_read(self):
        papers = [1, 2, 2, 2, 1]
        for limit, wanted in ((0, 0), (1, 1), (2, 2), (3, 3), (4, 3), (30, 3)):
            self.assert_room(papers, [[1, limit]], [1, 2, 3, 4, 5], wanted)

    def test_a_sum_over_all_readers(self):
        papers = [1, 2, 3]
        readers = [[1, 1], [0, 30], [2, 2], [3, 0], [6, 3], [1, 30]]
        self.assert_room(papers, readers, [1, 2, 3], 1 + 3 + 2 + 0 + 3 + 2)
        self.assert_room(papers, readers, [1], 0 + 1 + 1 + 0 + 1 + 0)
        self.assert_room(papers, readers, [2, 3], 1 + 2 + 1 + 0 + 2 + 2)

    def test_equal_rows_are_unlike_readers(self):
        self.assert_room([1, 2], [[0, 1]] * 8, [1, 2], 8)

    def test_the_most_papers_and_readers(self):
        numbers = list(range(1, 11))
        self.assert_room([1] * 10, [[0, 30]] * 8, numbers, 80)
        self.assert_room([1] * 10, [[0, 9]] * 8, numbers, 72)
        self.assert_room([1] * 9 + [2], [[2, 30]] * 8, numbers, 72)

    def test_nothing_somewhat_beyond_the_bounds_is_refused(self):
        self.assert_room([7] * 11, [[0, 31]] * 9, list(range(1, 12)), 99)

    def test_what_is_handed_in_is_not_changed(self):
        self.assert_leaves_alone(room, [2, 1, 3], [[2, 5], [0, 1], [1, 0]], [1, 3])
        self.assert_leaves_alone(room, [], [], [])


class IsAgainstTest(PromiseCase):
    def test_room_of_one_less_than_twice_the_papers_just_twice_and_one_more(self):
        papers = [1, 2, 3]
        chosen = [1, 2, 3]
        for limit, wanted in ((0, True), (1, True), (2, False), (3, False)):
            readers = [[0, 3], [0, 1], [0, limit]]
            self.assertEqual(room(papers, readers, chosen), 4 + limit)
            self.assertIs(is_against(papers, readers, chosen), wanted, limit)

    def test_one_paper(self):
        self.assertIs(is_against([1], [[0, 5]], [1]), True)
        self.assertIs(is_against([1], [[0, 5], [2, 5]], [1]), False)
        self.assertIs(is_against([1], [[0, 5], [2, 5], [3, 5]], [1]), False)
        self.assertIs(is_against([1], [[0, 5], [1, 5]], [1]), True)
        self.assertIs(is_against([1], [[0, 5], [2, 0]], [1]), True)

    def test_the_empty_set_is_never_against(self):
        for papers, readers in (([], []), ([1, 1], []), ([], [[0, 0]]), ([1, 2], [[1, 0], [2, 30]])):
            self.assertIs(is_against(papers, readers, []), False)

    def test_no_readers(self):
        self.assertIs(is_against([1, 2], [], [1]), True)
        self.assertIs(is_against([1, 2], [], [1, 2]), True)

    def test_a_set_is_asked_for_itself(self):
        papers = [1, 2, 2]
        readers = [[1, 30], [1, 30], [0, 30]]
        told = [is_against(papers, readers, chosen) for chosen in ([1], [2], [3], [1, 2], [2, 3], [1, 2, 3])]
        self.assertEqual(told, [True, False, False, False, False, False])

    def test_what_is_handed_in_is_not_changed(self):
        self.assert_leaves_alone(is_against, [2, 1, 3], [[2, 5], [0, 1], [1, 0]], [1, 3])
        self.assert_leaves_alone(is_against, [2, 1, 3], [[2, 5], [0, 1], [1, 0]], [])


class FirstAgainstTest(PromiseCase):
    def test_none_where_there_is_none(self):
        self.assertIs(first_against([1], [[0, 1], [0, 1]]), None)
        self.assertIs(first_against([1, 2], [[2, 1], [0, 2], [1, 1]]), None)
        self.assertIs(first_against([1] * 10, [[0, 30]] * 8), None)

    def test_no_papers(self):
        self.assertIs(first_against([], []), None)
        self.assertIs(first_against([], [[0, 0], [1, 30]]), None)

    def test_no_readers(self):
        self.assert_numbers(first_against([4], []), [1])
        self.assert_numbers(first_against([4, 5, 6], []), [1])

    def test_one_paper_is_told_ahead_of_larger_sets(self):
        papers = [1, 1, 2, 2]
        readers = [[2, 1], [2, 1], [0, 1]]
        self.assertIs(is_against(papers, readers, [1, 2]), True)
        self.assertIs(is_against(papers, readers, [3]), True)
        self.assert_numbers(first_against(papers, readers), [3])

    def test_of_one_size_the_first_by_numbers(self):
        papers = [1, 2, 1, 2]
        self.assert_numbers(first_against(papers, [[1, 30], [1, 30], [2, 30]]), [1])
        self.assert_numbers(first_against(papers, [[2, 30], [2, 30], [1, 30]]), [2])

    def test_of_two_papers_the_first_by_numbers(self):
        readers = [[1, 1]] * 3 + [[2, 1]] * 3
        papers = [1, 2, 2, 1]
        told = [is_against(papers, readers, chosen) for chosen in ([1, 2], [1, 3], [1, 4], [2, 3], [2, 4], [3, 4])]
        self.assertEqual(told, [False, False, True, True, False, False])
        self.assert_numbers(first_against(papers, readers), [1, 4])

    def test_of_two_papers_paper_1_is_in_none(self):
        papers = [3, 1, 2, 1, 2]
        readers = [[1, 30], [2, 30], [0, 1]]
        self.assert_numbers(first_against(papers, readers), [2, 3])

    def test_the_whole_set_alone(self):
        papers = [1, 2, 3]
        readers = [[0, 2], [0, 2], [0, 1]]
        self.assert_numbers(first_against(papers, readers), [1, 2, 3])

    def test_the_whole_set_of_the_most_papers_alone(self):
        papers = [1, 2, 3, 4, 5, 6, 1, 2, 3, 4]
        readers = [[0, 10]] + [[0, 9]] + [[0, 0]] * 6
        self.assert_numbers(first_against(papers, readers), list(range(1, 11)))

    def test_the_last_paper_alone(self):
        papers = [1] * 9 + [2]
        readers = [[2, 30]] * 7 + [[0, 30]]
        self.assert_numbers(first_against(papers, readers), [10])

    def test_sets_of_many_sizes_come_up(self):
        told = [first_against(papers, readers) for papers, readers in exams_of_all_sizes()]
        sizes = {len(chosen) for chosen in told if chosen is not None}
        self.assertTrue({1, 2, 3} <= sizes, sizes)
        self.assertIn(None, told)

    def test_the_same_as_one_by_one(self):
        for papers, readers in small_exams(600) + exams_of_all_sizes():
            told = first_against(papers, readers)
            self.assertEqual(told, against_one_by_one(papers, readers), (papers, readers))
            if told is not None:
                self.assert_numbers(told, told)

    def test_nothing_somewhat_beyond_the_bounds_is_refused(self):
        self.assertIs(first_against([7] * 11, [[0, 31]] * 9), None)
        self.assert_numbers(first_against([7] * 11, [[7, 31]] * 8 + [[0, 31]]), [1])

    def test_what_is_handed_in_is_not_changed(self):
        self.assert_leaves_alone(first_against, [2, 1, 3], [[2, 5], [0, 1], [1, 0]])
        self.assert_leaves_alone(first_against, [2, 1, 3], [[0, 5], [0, 4]])
        self.assert_leaves_alone(first_against, [], [])

    def test_the_answer_belongs_to_the_caller(self):
        self.assert_shares_no_list(first_against, [2, 1, 3], [[2, 5], [0, 1], [1, 0]])
        self.assert_shares_no_list(first_against, [1, 2, 3], [[0, 2], [0, 2], [0, 1]])


if __name__ == "__main__":
    unittest.main()
