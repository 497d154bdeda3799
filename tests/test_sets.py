"""Points 1 and 4: the sets of papers and their order."""

import itertools
import unittest

from secondread.sets import comes_before, sets_of
from tests.helper import PromiseCase

SETS_OF_THREE = [[], [1], [2], [3], [1, 2], [1, 3], [2, 3], [1, 2, 3]]


def sets_in_order(many):
    papers = range(1, many + 1)
    return [list(chosen) for size in range(many + 1) for chosen in itertools.combinations(papers, size)]


class ComesBeforeTest(PromiseCase):
    def assert_in_order(self, first, second):
        self.assertIs(comes_before(first, second), True, (first, second))
        self.assertIs(comes_before(second, first), False, (second, first))

    def test_the_set_with_fewer_papers_comes_first(self):
        self.assert_in_order([], [1])
        self.assert_in_order([], [1, 2, 3, 4, 5, 6, 7, 8, 9, 10])
        self.assert_in_order([1], [1, 2])
        self.assert_in_order([10], [1, 2])
        self.assert_in_order([9, 10], [1, 2, 3])
        self.assert_in_order([2, 3, 4, 5, 6, 7, 8, 9, 10], [1, 2, 3, 4, 5, 6, 7, 8, 9, 10])

    def test_the_first_place_differs(self):
        self.assert_in_order([1], [2])
        self.assert_in_order([9], [10])
        self.assert_in_order([2], [10])
        self.assert_in_order([1, 9, 10], [2, 3, 4])

    def test_a_later_place_differs(self):
        self.assert_in_order([1, 2, 9, 10], [1, 3, 4, 5])
        self.assert_in_order([1, 2, 10], [1, 9, 10])

    def test_the_last_place_differs(self):
        self.assert_in_order([1, 2], [1, 3])
        self.assert_in_order([1, 5, 9], [1, 5, 10])
        self.assert_in_order([1, 2, 3, 4, 5, 6, 7, 8, 9], [1, 2, 3, 4, 5, 6, 7, 8, 10])

    def test_no_set_comes_before_itself(self):
        for chosen in sets_in_order(10):
            self.assertIs(comes_before(chosen, chosen), False)
            self.assertIs(comes_before(chosen, list(chosen)), False)

    def test_each_pair_both_ways_about(self):
        in_order = sets_in_order(6)
        for place, one in enumerate(in_order):
            for other_place, other in enumerate(in_order):
                self.assertIs(comes_before(one, other), place < other_place, (one, other))

    def test_nothing_somewhat_beyond_the_bounds_is_refused(self):
        self.assert_in_order([11], [12])
        self.assert_in_order([11, 12], [1, 2, 11])

    def test_what_is_handed_in_is_not_changed(self):
        for one in SETS_OF_THREE:
            for other in SETS_OF_THREE:
                self.assert_leaves_alone(comes_before, list(one), list(other))


class SetsOfTest(PromiseCase):
    def test_the_sets_of_three_papers(self):
        self.assertEqual(sets_of(3), SETS_OF_THREE)

    def test_no_papers_have_the_empty_set_alone(self):
        self.assertEqual(sets_of(0), [[]])

    def test_as_many_as_2_multiplied_by_itself_that_often(self):
        self.assertEqual([len(sets_of(many)) for many in range(11)],
                         [1, 2, 4, 8, 16, 32, 64, 128, 256, 512, 1024])

    def test_lists_of_rising_whole_numbers(self):
        for many in range(11):
            told = sets_of(many)
            self.assertIs(type(told), list)
            for chosen in told:
                self.assert_numbers(chosen, sorted(set(chosen)))
                self.assertTrue(set(chosen) <= set(range(1, many + 1)), chosen)

    def test_each_once(self):
        for many in range(11):
            told = [tuple(chosen) for chosen in sets_of(many)]
            self.assertEqual(len(set(told)), len(told))

    def test_each_behind_the_one_before_it(self):
        for many in range(11):
            told = sets_of(many)
            for one, other in zip(told, told[1:]):
                self.assertIs(comes_before(one, other), True, (one, other))

    def test_all_of_them_in_their_order(self):
        for many in range(11):
            self.assertEqual(sets_of(many), sets_in_order(many))

    def test_nothing_somewhat_beyond_the_bounds_is_refused(self):
        self.assertEqual(sets_of(11), sets_in_order(11))

    def test_the_answer_and_the_lists_within_it_belong_to_the_caller(self):
        for many in range(11):
            first = sets_of(many)
            for chosen in first:
                chosen.append(99)
            first.reverse()
            first.append([77])
            self.assertEqual(sets_of(many), sets_in_order(many))

    def test_a_changed_list_changes_no_other_one_of_the_answer(self):
        for place in range(len(SETS_OF_THREE)):
            told = sets_of(3)
            told[place].append(99)
            wanted = [list(chosen) for chosen in SETS_OF_THREE]
            wanted[place].append(99)
            self.assertEqual(told, wanted)


if __name__ == "__main__":
    unittest.main()
