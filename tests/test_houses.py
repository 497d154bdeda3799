"""Points 1, 2 and 3: who may read what."""

import unittest

from secondread.houses import may_read, papers_for, readers_for
from tests.helper import PromiseCase

HOUSES = range(1, 7)
LIMITS = (0, 1, 29, 30)


class MayReadTest(PromiseCase):
    def test_a_reader_of_the_papers_house_may_not(self):
        for house in HOUSES:
            self.assertIs(may_read([house], [[house, 5]], 1, 1), False)

    def test_a_reader_of_another_house_may(self):
        for house in HOUSES:
            for other in HOUSES:
                if house != other:
                    self.assertIs(may_read([house], [[other, 5]], 1, 1), True)

    def test_a_reader_of_no_house_may(self):
        for house in HOUSES:
            self.assertIs(may_read([house], [[0, 5]], 1, 1), True)

    def test_the_limit_plays_no_part(self):
        for limit in LIMITS:
            self.assertIs(may_read([3], [[3, limit]], 1, 1), False)
            self.assertIs(may_read([3], [[4, limit]], 1, 1), True)
            self.assertIs(may_read([3], [[0, limit]], 1, 1), True)

    def test_a_limit_like_the_papers_house_plays_no_part(self):
        self.assertIs(may_read([3], [[4, 3]], 1, 1), True)
        self.assertIs(may_read([3], [[3, 4]], 1, 1), False)

    def test_papers_and_readers_are_numbered_from_1(self):
        papers = [1, 2, 1]
        readers = [[2, 5], [1, 5]]
        told = [[may_read(papers, readers, paper, reader) for reader in (1, 2)] for paper in (1, 2, 3)]
        self.assertEqual(told, [[True, False], [False, True], [True, False]])

    def test_the_last_of_the_most_papers_and_readers(self):
        papers = [1] * 9 + [6]
        readers = [[0, 5]] * 7 + [[6, 5]]
        self.assertIs(may_read(papers, readers, 10, 8), False)
        self.assertIs(may_read(papers, readers, 9, 8), True)
        self.assertIs(may_read(papers, readers, 10, 7), True)

    def test_what_is_handed_in_is_not_changed(self):
        self.assert_leaves_alone(may_read, [2, 1], [[2, 5], [0, 0]], 1, 1)
        self.assert_leaves_alone(may_read, [2, 1], [[2, 5], [0, 0]], 2, 2)


class ReadersForTest(PromiseCase):
    def test_no_readers(self):
        self.assert_numbers(readers_for([1, 2], [], 2), [])

    def test_all_may(self):
        self.assert_numbers(readers_for([1], [[2, 5], [0, 5], [3, 5]], 1), [1, 2, 3])

    def test_some_may(self):
        self.assert_numbers(readers_for([4, 1], [[1, 5], [0, 5], [1, 5], [6, 5], [1, 5]], 2), [2, 4])

    def test_none_may(self):
        self.assert_numbers(readers_for([1], [[1, 5], [1, 0], [1, 30]], 1), [])

    def test_the_least_first_and_each_once_whatever_the_limits(self):
        for limits in ((30, 29, 2, 1, 0), (0, 1, 2, 29, 30), (0, 0, 0, 0, 0), (30, 0, 30, 0, 30)):
            readers = [[house, limit] for house, limit in zip((6, 3, 0, 2, 6), limits)]
            self.assert_numbers(readers_for([3], readers, 1), [1, 3, 4, 5])

    def test_equal_rows_are_unlike_readers(self):
        row = [2, 5]
        self.assert_numbers(readers_for([1], [row] * 8, 1), [1, 2, 3, 4, 5, 6, 7, 8])

    def test_what_is_handed_in_is_not_changed(self):
        self.assert_leaves_alone(readers_for, [2, 1], [[2, 5], [0, 0], [1, 30]], 1)
        self.assert_leaves_alone(readers_for, [2, 1], [], 1)

    def test_the_answer_belongs_to_the_caller(self):
        self.assert_owned_by_caller(readers_for, [2, 1], [[2, 5], [0, 0], [1, 30]], 1)
        self.assert_owned_by_caller(readers_for, [2, 1], [], 1)


class PapersForTest(PromiseCase):
    def test_no_papers(self):
        self.assert_numbers(papers_for([], [[0, 5], [1, 5]], 1), [])
        self.assert_numbers(papers_for([], [[0, 5], [1, 5]], 2), [])

    def test_a_reader_of_no_house_may_read_every_paper(self):
        papers = [6, 5, 4, 3, 2, 1, 1, 2, 3, 4]
        self.assert_numbers(papers_for(papers, [[1, 5], [0, 5]], 2), [1, 2, 3, 4, 5, 6, 7, 8, 9, 10])

    def test_a_reader_of_a_house(self):
        papers = [1, 2, 3, 2, 1]
        readers = [[1, 5], [2, 5], [3, 5], [4, 5]]
        self.assert_numbers(papers_for(papers, readers, 1), [2, 3, 4])
        self.assert_numbers(papers_for(papers, readers, 2), [1, 3, 5])
        self.assert_numbers(papers_for(papers, readers, 3), [1, 2, 4, 5])
        self.assert_numbers(papers_for(papers, readers, 4), [1, 2, 3, 4, 5])

    def test_all_papers_of_the_readers_house(self):
        self.assert_numbers(papers_for([6, 6, 6], [[6, 30]], 1), [])

    def test_whatever_the_limit(self):
        for limit in LIMITS:
            self.assert_numbers(papers_for([5, 1, 6, 1, 2], [[1, limit]], 1), [1, 3, 5])
            self.assert_numbers(papers_for([5, 1, 6, 1, 2], [[0, limit]], 1), [1, 2, 3, 4, 5])

    def test_what_is_handed_in_is_not_changed(self):
        self.assert_leaves_alone(papers_for, [2, 1, 2], [[2, 5], [0, 0]], 1)
        self.assert_leaves_alone(papers_for, [], [[2, 5], [0, 0]], 2)

    def test_the_answer_belongs_to_the_caller(self):
        self.assert_owned_by_caller(papers_for, [2, 1, 2], [[2, 5], [0, 0]], 1)
        self.assert_owned_by_caller(papers_for, [2, 1, 2], [[2, 5], [0, 0]], 2)


class TogetherTest(PromiseCase):
    def test_the_three_tell_the_same_for_every_pair_of_houses(self):
        papers = [1, 2, 3, 4, 5, 6, 6, 1]
        readers = [[0, 0], [1, 30], [2, 1], [3, 0], [4, 2], [5, 7], [6, 3]]
        for paper, house in enumerate(papers, start=1):
            for reader, row in enumerate(readers, start=1):
                wanted = house != row[0]
                self.assertIs(may_read(papers, readers, paper, reader), wanted)
                self.assertEqual(reader in readers_for(papers, readers, paper), wanted)
                self.assertEqual(paper in papers_for(papers, readers, reader), wanted)

    def test_nothing_somewhat_beyond_the_bounds_is_refused(self):
        papers = [7] * 11
        readers = [[7, 31]] * 8 + [[8, 31]]
        self.assertIs(may_read(papers, readers, 11, 9), True)
        self.assertIs(may_read(papers, readers, 11, 8), False)
        self.assert_numbers(readers_for(papers, readers, 11), [9])
        self.assert_numbers(papers_for(papers, readers, 9), [1, 2, 3, 4, 5, 6, 7, 8, 9, 10, 11])


if __name__ == "__main__":
    unittest.main()
