"""Points 1, 10 and 11: fractions, readings that agree, and marks."""

import itertools
import math
import unittest

from secondread.marks import agree, lowest, mark_of
from tests.helper import PromiseCase

GREAT = 10 ** 30


class LowestTest(PromiseCase):
    def test_a_top_of_0(self):
        for bottom in (1, 2, 7, 100, GREAT):
            self.assert_numbers(lowest(0, bottom), [0, 1])

    def test_equal_numbers(self):
        for number in (1, 2, 9, 100, GREAT - 1, GREAT):
            self.assert_numbers(lowest(number, number), [1, 1])

    def test_no_common_divisor(self):
        for top, bottom in ((1, 2), (3, 2), (8, 9), (9, 8), (1, GREAT), (GREAT, 1),
                            (GREAT, GREAT - 1), (GREAT - 1, GREAT)):
            self.assert_numbers(lowest(top, bottom), [top, bottom])

    def test_a_common_divisor(self):
        self.assert_numbers(lowest(6, 2), [3, 1])
        self.assert_numbers(lowest(2, 6), [1, 3])
        self.assert_numbers(lowest(12, 18), [2, 3])
        self.assert_numbers(lowest(18, 12), [3, 2])
        self.assert_numbers(lowest(49, 14), [7, 2])

    def test_great_numbers_with_a_common_divisor(self):
        self.assert_numbers(lowest(GREAT, 2), [GREAT // 2, 1])
        self.assert_numbers(lowest(2, GREAT), [1, GREAT // 2])
        self.assert_numbers(lowest(GREAT, 10 ** 29), [10, 1])
        self.assert_numbers(lowest(2 ** 99, 6 ** 38), [2 ** 61, 3 ** 38])
        self.assert_numbers(lowest(GREAT - 1, 9), [(GREAT - 1) // 9, 1])

    def test_great_numbers_that_take_the_most_steps(self):
        one = 1
        other = 1
        while one + other <= GREAT:
            one, other = other, one + other
        self.assert_numbers(lowest(one, other), [one, other])
        self.assert_numbers(lowest(other, one), [other, one])

    def test_all_small_ones(self):
        for top in range(61):
            for bottom in range(1, 61):
                divisor = math.gcd(top, bottom)
                self.assert_numbers(lowest(top, bottom), [top // divisor, bottom // divisor])

    def test_the_answer_belongs_to_the_caller(self):
        self.assert_shares_no_list(lowest, 0, 1)
        self.assert_shares_no_list(lowest, 6, 4)


class AgreeTest(PromiseCase):
    def assert_both_ways(self, one, other, step, wanted):
        self.assertIs(agree(one, other, step), wanted, (one, other, step))
        self.assertIs(agree(other, one, step), wanted, (other, one, step))

    def test_a_difference_of_just_the_step(self):
        self.assert_both_ways(50, 57, 7, True)
        self.assert_both_ways(0, 1, 1, True)
        self.assert_both_ways(1, 100, 99, True)

    def test_a_difference_of_one_more(self):
        self.assert_both_ways(50, 58, 7, False)
        self.assert_both_ways(0, 2, 1, False)
        self.assert_both_ways(0, 100, 99, False)

    def test_a_difference_of_one_less(self):
        self.assert_both_ways(50, 56, 7, True)

    def test_a_difference_of_0(self):
        for points in (0, 1, 50, 100):
            for step in (0, 1, 100):
                self.assert_both_ways(points, points, step, True)

    def test_a_step_of_0(self):
        self.assert_both_ways(0, 0, 0, True)
        self.assert_both_ways(0, 1, 0, False)
        self.assert_both_ways(99, 100, 0, False)

    def test_a_step_of_100(self):
        self.assert_both_ways(0, 100, 100, True)
        self.assert_both_ways(0, 99, 100, True)


class MarkOfTwoTest(PromiseCase):
    def test_two_that_agree_with_an_even_sum(self):
        self.assert_numbers(mark_of([50, 54], 4), [52, 1])
        self.assert_numbers(mark_of([54, 50], 4), [52, 1])
        self.assert_numbers(mark_of([7, 7], 0), [7, 1])
        self.assert_numbers(mark_of([0, 100], 100), [50, 1])

    def test_two_that_agree_with_an_odd_sum(self):
        self.assert_numbers(mark_of([50, 55], 5), [105, 2])
        self.assert_numbers(mark_of([55, 50], 5), [105, 2])
        self.assert_numbers(mark_of([0, 1], 1), [1, 2])
        self.assert_numbers(mark_of([99, 100], 100), [199, 2])

    def test_two_of_nought(self):
        self.assert_numbers(mark_of([0, 0], 0), [0, 1])
        self.assert_numbers(mark_of([0, 0], 100), [0, 1])

    def test_two_that_do_not_agree_the_lesser_first(self):
        self.assert_numbers(mark_of([50, 56], 5), [50, 1])
        self.assert_numbers(mark_of([0, 100], 99), [0, 1])
        self.assert_numbers(mark_of([3, 4], 0), [3, 1])

    def test_two_that_do_not_agree_the_lesser_second(self):
        self.assert_numbers(mark_of([56, 50], 5), [50, 1])
        self.assert_numbers(mark_of([100, 0], 99), [0, 1])
        self.assert_numbers(mark_of([4, 3], 0), [3, 1])

    def test_all_points_at_some_steps(self):
        for step in (0, 1, 10, 99, 100):
            for one in range(0, 101, 3):
                for other in range(101):
                    least = min(one, other)
                    wanted = [one + other, 2] if max(one, other) - least <= step else [least, 1]
                    if wanted[0] % wanted[1] == 0:
                        wanted = [wanted[0] // wanted[1], 1]
                    self.assertEqual(mark_of([one, other], step), wanted, (one, other, step))


class MarkOfThreeTest(PromiseCase):
    def assert_in_each_order(self, points, wanted):
        for ordered in itertools.permutations(points):
            for step in (0, 1, 5, 99, 100):
                self.assert_numbers(mark_of(list(ordered), step), [wanted, 1])

    def test_the_middle_one_in_each_order(self):
        self.assert_in_each_order((10, 20, 90), 20)
        self.assert_in_each_order((0, 1, 100), 1)
        self.assert_in_each_order((0, 99, 100), 99)
        self.assert_in_each_order((9, 10, 100), 10)

    def test_equal_ones_among_them(self):
        self.assert_in_each_order((10, 10, 90), 10)
        self.assert_in_each_order((10, 90, 90), 90)
        self.assert_in_each_order((0, 0, 100), 0)
        self.assert_in_each_order((40, 40, 40), 40)
        self.assert_in_each_order((0, 0, 0), 0)


class MarkOfListsTest(PromiseCase):
    def test_what_is_handed_in_is_not_changed(self):
        for points in ([60, 50], [50, 60], [90, 10, 50], [10, 90, 50], [50, 90, 10]):
            for step in (0, 10, 100):
                self.assert_leaves_alone(mark_of, points, step)

    def test_the_answer_belongs_to_the_caller(self):
        self.assert_shares_no_list(mark_of, [60, 50], 10)
        self.assert_shares_no_list(mark_of, [60, 50], 9)
        self.assert_shares_no_list(mark_of, [60, 50, 55], 9)


if __name__ == "__main__":
    unittest.main()
