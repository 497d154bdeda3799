"""Point 19: the five refusals, their order, the bounds of every number, and that what is refused changes nothing."""

import unittest

from secondread.bounds import MOST_HOUSES, MOST_LIMIT, MOST_PAPERS, MOST_POINTS, MOST_READERS, MOST_STEP
from secondread.errors import Full, NotDue, OutOfBounds, OutOfTime, ReadError, UnknownNumber
from secondread.exam import Exam
from tests.helper import PromiseCase, all_told, dealt_exam, exam_with, outcome

# The last two have more figures than Python turns into a text.
FAR_OFF = (10 ** 9, -10 ** 9, 10 ** 30, -10 ** 30, 10 ** 5000, -10 ** 5000)

FULL_PAPERS = [1, 2, 3, 4, 5, 6, 1, 2, 3, 4]
FULL_READERS = [[0, 30]] * 8


def beyond(least, most):
    return (least - 1, most + 1, least - 2, most + 2) + FAR_OFF


def ahead():
    return exam_with([1, 2], [[1, 5], [0, 3], [2, 4]], 7)


def ahead_and_full():
    return exam_with(FULL_PAPERS, FULL_READERS, 7)


def behind():
    return dealt_exam([1, 2], [[1, 5], [0, 3], [2, 4], [3, 1]], 7)


def behind_and_full():
    return dealt_exam(FULL_PAPERS, FULL_READERS, 7)


class BoundsTest(PromiseCase):
    def test_the_house_of_a_paper(self):
        for house in range(1, MOST_HOUSES + 1):
            exam = ahead()
            self.assert_same(exam.bring_paper(house), 3)
            self.assert_answers(exam, papers=[1, 2, house])
        for house in beyond(1, MOST_HOUSES):
            self.assert_refused(ahead(), ("bring_paper", house), UnknownNumber)

    def test_the_house_of_a_reader(self):
        for house in range(MOST_HOUSES + 1):
            exam = ahead()
            self.assert_same(exam.bring_reader(house, 1), 4)
            self.assert_answers(exam, readers=[[1, 5], [0, 3], [2, 4], [house, 1]])
        for house in beyond(0, MOST_HOUSES):
            self.assert_refused(ahead(), ("bring_reader", house, 1), UnknownNumber)

    def test_the_limit(self):
        for limit in (0, 1, MOST_LIMIT - 1, MOST_LIMIT):
            exam = ahead()
            self.assert_same(exam.bring_reader(0, limit), 4)
            self.assert_answers(exam, left=[5, 3, 4, limit])
        for limit in beyond(0, MOST_LIMIT):
            self.assert_refused(ahead(), ("bring_reader", 0, limit), OutOfBounds)

    def test_the_step(self):
        for step in (0, 1, MOST_STEP - 1, MOST_STEP):
            exam = ahead()
            self.assert_same(exam.set_step(step), step)
            self.assert_answers(exam, step=step)
        for step in beyond(0, MOST_STEP):
            self.assert_refused(ahead(), ("set_step", step), OutOfBounds)

    def test_the_points(self):
        for points in (0, 1, MOST_POINTS - 1, MOST_POINTS):
            exam = behind()
            self.assert_same(exam.enter(1, 2, points), 0)
            exam.enter(1, 3, points)
            self.assert_answers(exam, marks=[[points, 1, [[2, points], [3, points]]], None])
        for points in beyond(0, MOST_POINTS):
            self.assert_refused(behind(), ("enter", 1, 2, points), OutOfBounds)

    def test_the_papers_number(self):
        for paper in beyond(1, 2):
            self.assert_refused(behind(), ("enter", paper, 2, 50), UnknownNumber)
        for paper in (1, 2):
            self.assert_same(behind().enter(paper, 2, 50), 0)

    def test_the_readers_number(self):
        for reader in beyond(1, 4):
            self.assert_refused(behind(), ("enter", 1, reader, 50), UnknownNumber)
        for reader in (1, 4):
            self.assert_refused(behind(), ("enter", 1, reader, 50), NotDue)

    def test_numbers_of_papers_and_readers_in_a_full_exam(self):
        exam = behind_and_full()
        for number in (0, -1, MOST_PAPERS + 1):
            self.assert_refused(exam, ("enter", number, 1, 50), UnknownNumber)
        for number in (0, -1, MOST_READERS + 1):
            self.assert_refused(exam, ("enter", 1, number, 50), UnknownNumber)
        self.assert_refused(exam, ("enter", MOST_PAPERS, MOST_READERS, 50), NotDue)
        self.assert_same(exam.enter(MOST_PAPERS, 1, 50), 0)

    def test_no_papers_and_no_readers_have_no_numbers(self):
        exam = dealt_exam([], [])
        for number in (0, 1, -1) + FAR_OFF:
            self.assert_refused(exam, ("enter", number, number, 50), UnknownNumber)
        exam = dealt_exam([], [[0, 5]])
        for paper in (0, 1, -1) + FAR_OFF:
            self.assert_refused(exam, ("enter", paper, 1, 50), UnknownNumber)

    def test_how_many_papers_and_readers(self):
        exam = Exam()
        for number in range(1, MOST_PAPERS + 1):
            self.assert_same(exam.bring_paper(1), number)
        self.assert_refused(exam, ("bring_paper", 1), Full)
        for number in range(1, MOST_READERS + 1):
            self.assert_same(exam.bring_reader(0, 30), number)
        self.assert_refused(exam, ("bring_reader", 0, 30), Full)
        self.assert_refused(exam, ("bring_paper", 1), Full)


class EachRefusalTest(PromiseCase):
    def test_out_of_time_behind_the_dealing(self):
        for deed in (("bring_paper", 1), ("bring_reader", 0, 5), ("set_step", 7), ("set_step", 8), ("deal",)):
            self.assert_refused(behind(), deed, OutOfTime)

    def test_out_of_time_ahead_of_the_dealing(self):
        for exam in (Exam(), ahead(), ahead_and_full()):
            self.assert_refused(exam, ("enter", 1, 2, 50), OutOfTime)
        exam = exam_with([1], [[0, 5]])
        self.assertIs(exam.deal(), False)
        self.assert_refused(exam, ("enter", 1, 1, 50), OutOfTime)

    def test_out_of_time_when_all_readings_are_in(self):
        exam = dealt_exam([1], [[0, 1], [0, 1]])
        exam.enter(1, 1, 5)
        exam.enter(1, 2, 5)
        for deed in (("bring_paper", 1), ("bring_reader", 0, 5), ("set_step", 7), ("deal",)):
            self.assert_refused(exam, deed, OutOfTime)

    def test_unknown_number(self):
        for deed in (("bring_paper", 0), ("bring_paper", 7), ("bring_reader", -1, 5), ("bring_reader", 7, 5)):
            self.assert_refused(ahead(), deed, UnknownNumber)
        for deed in (("enter", 3, 2, 50), ("enter", 0, 2, 50), ("enter", 1, 5, 50), ("enter", 1, 0, 50),
                     ("enter", -1, 2, 50), ("enter", 1, -2, 50)):
            self.assert_refused(behind(), deed, UnknownNumber)

    def test_not_due(self):
        exam = behind()
        self.assert_answers(exam, dealing=[[2, 3], [1, 2]])
        for deed in (("enter", 1, 1, 50), ("enter", 1, 4, 50), ("enter", 2, 3, 50), ("enter", 2, 4, 50)):
            self.assert_refused(exam, deed, NotDue)
        exam.enter(1, 2, 50)
        self.assert_refused(exam, ("enter", 1, 2, 50), NotDue)
        self.assert_same(exam.enter(1, 3, 58), 4)
        self.assert_refused(exam, ("enter", 1, 3, 58), NotDue)
        self.assert_same(exam.enter(1, 4, 58), 0)
        self.assert_refused(exam, ("enter", 1, 4, 58), NotDue)

    def test_out_of_bounds(self):
        for deed in (("bring_reader", 0, 31), ("bring_reader", 0, -1), ("set_step", 101), ("set_step", -1)):
            self.assert_refused(ahead(), deed, OutOfBounds)
        for deed in (("enter", 1, 2, 101), ("enter", 1, 2, -1), ("enter", 2, 1, 101)):
            self.assert_refused(behind(), deed, OutOfBounds)

    def test_points_out_of_bounds_for_the_later_and_for_the_third_reading(self):
        exam = behind()
        exam.enter(1, 2, 50)
        self.assert_refused(exam, ("enter", 1, 3, 101), OutOfBounds)
        self.assert_refused(exam, ("enter", 1, 3, -1), OutOfBounds)
        self.assert_same(exam.enter(1, 3, 60), 4)
        self.assert_refused(exam, ("enter", 1, 4, 101), OutOfBounds)
        self.assert_same(exam.enter(1, 4, 55), 0)

    def test_full(self):
        self.assert_refused(ahead_and_full(), ("bring_paper", 1), Full)
        self.assert_refused(ahead_and_full(), ("bring_reader", 0, 5), Full)

    def test_every_refusal_is_a_read_error_and_none_stands_for_another(self):
        for deed, error in ((("enter", 1, 1, 1), OutOfTime), (("bring_paper", 0), UnknownNumber),
                            (("set_step", 101), OutOfBounds), (("bring_paper", 1), Full)):
            with self.assertRaises(ReadError) as raised:
                getattr(ahead_and_full(), deed[0])(*deed[1:])
            self.assertIs(type(raised.exception), error)
        with self.assertRaises(ReadError) as raised:
            behind().enter(1, 1, 1)
        self.assertIs(type(raised.exception), NotDue)


class TwoAtOnceTest(PromiseCase):
    def assert_all_refused(self, make, error, deeds):
        for deed in deeds:
            self.assert_refused(make(), deed, error)

    def test_out_of_time_and_unknown_number(self):
        for wrong in beyond(1, 6):
            self.assert_refused(behind(), ("bring_paper", wrong), OutOfTime)
            self.assert_refused(ahead(), ("enter", wrong, 1, 50), OutOfTime)
            self.assert_refused(ahead(), ("enter", 1, wrong, 50), OutOfTime)
        for wrong in beyond(0, 6):
            self.assert_refused(behind(), ("bring_reader", wrong, 5), OutOfTime)

    def test_out_of_time_and_not_due(self):
        self.assert_all_refused(ahead, OutOfTime, [("enter", 1, 1, 50), ("enter", 2, 3, 50)])

    def test_out_of_time_and_out_of_bounds(self):
        for wrong in beyond(0, 100):
            self.assert_refused(behind(), ("bring_reader", 0, wrong), OutOfTime)
            self.assert_refused(behind(), ("set_step", wrong), OutOfTime)
            self.assert_refused(ahead(), ("enter", 1, 2, wrong), OutOfTime)

    def test_out_of_time_and_full(self):
        self.assert_all_refused(behind_and_full, OutOfTime, [("bring_paper", 1), ("bring_reader", 0, 5)])

    def test_unknown_number_and_not_due(self):
        for wrong in (0, -1, 5, 11):
            self.assert_refused(behind(), ("enter", wrong, 1, 50), UnknownNumber)
            self.assert_refused(behind(), ("enter", 1, wrong, 50), UnknownNumber)
            self.assert_refused(behind(), ("enter", wrong, wrong, 50), UnknownNumber)

    def test_unknown_number_and_out_of_bounds(self):
        self.assert_all_refused(ahead, UnknownNumber, [("bring_reader", 7, 31), ("bring_reader", -1, -1),
                                                       ("bring_reader", 7, -1), ("bring_reader", -1, 31)])
        self.assert_all_refused(behind, UnknownNumber, [("enter", 3, 2, 101), ("enter", 1, 5, -1),
                                                        ("enter", 0, 2, -1), ("enter", 1, 0, 101)])

    def test_unknown_number_and_full(self):
        self.assert_all_refused(ahead_and_full, UnknownNumber, [("bring_paper", 0), ("bring_paper", 7),
                                                                ("bring_reader", -1, 5), ("bring_reader", 7, 5)])

    def test_not_due_and_out_of_bounds(self):
        self.assert_all_refused(behind, NotDue, [("enter", 1, 1, 101), ("enter", 2, 3, -1),
                                                 ("enter", 1, 4, 10 ** 5000)])
        exam = behind()
        exam.enter(1, 2, 50)
        self.assert_refused(exam, ("enter", 1, 2, 101), NotDue)

    def test_out_of_bounds_and_full(self):
        self.assert_all_refused(ahead_and_full, OutOfBounds, [("bring_reader", 0, 31), ("bring_reader", 6, -1),
                                                              ("bring_reader", 0, 10 ** 5000)])

    def test_several_at_once(self):
        self.assert_all_refused(behind_and_full, OutOfTime, [("bring_paper", 0), ("bring_reader", 7, 31),
                                                             ("bring_reader", 0, 31)])
        self.assert_all_refused(ahead_and_full, UnknownNumber, [("bring_reader", 7, 31), ("bring_reader", -1, -1)])
        self.assert_all_refused(ahead, OutOfTime, [("enter", 0, 0, 101), ("enter", 3, 2, -1)])
        self.assert_all_refused(behind, UnknownNumber, [("enter", 0, 0, 101), ("enter", -1, 1, -1)])


class NothingChangedTest(PromiseCase):
    refused_ahead = [("enter", 1, 1, 50), ("enter", 0, 0, 101), ("bring_paper", 0), ("bring_paper", 7),
                     ("bring_reader", 7, 5), ("bring_reader", -1, 31), ("bring_reader", 0, 31),
                     ("bring_reader", 0, -1), ("set_step", 101), ("set_step", -1)]
    refused_behind = [("bring_paper", 1), ("bring_paper", 0), ("bring_reader", 0, 5), ("bring_reader", 7, 31),
                      ("set_step", 50), ("set_step", 101), ("deal",), ("enter", 0, 1, 50), ("enter", 1, 0, 50),
                      ("enter", 4, 1, 50), ("enter", 1, 6, 50), ("enter", -1, -1, -1)]
    deeds = [("bring_paper", 1), ("bring_reader", 1, 4), ("bring_reader", 0, 3), ("set_step", 5), ("deal",),
             ("bring_paper", 2), ("bring_paper", 1), ("bring_reader", 2, 2), ("bring_reader", 3, 2), ("deal",),
             ("enter", 2, 2, 40), ("enter", 1, 3, 10), ("enter", 1, 2, 20), ("enter", 3, 3, 70), ("enter", 2, 1, 45),
             ("enter", 3, 2, 60), ("enter", 1, 4, 12), ("enter", 3, 4, 61)]
    wanted = [1, 1, 2, 5, False, 2, 3, 3, 4, True, 0, 0, 4, 0, 0, 4, 0, 0]

    def refused_now(self, exam):
        if not exam.dealt():
            return self.refused_ahead
        due = exam.due()
        wrong = [("enter", paper, reader, 50) for paper in (1, 2, 3) for reader in (1, 2, 3, 4)
                 if [paper, reader] not in due]
        out_of_bounds = [("enter", paper, reader, points) for paper, reader in due for points in (-1, 101)]
        return self.refused_behind + wrong + out_of_bounds

    def test_the_deeds_that_follow_answer_as_if_it_had_not_been_tried(self):
        plain = Exam()
        tried = Exam()
        told = []
        for deed in self.deeds:
            for refused in self.refused_now(plain):
                first = outcome(tried, refused)
                self.assertTrue(issubclass(first, ReadError), refused)
                self.assertIs(outcome(tried, refused), first, refused)
            self.assert_same(all_told(tried), all_told(plain))
            told.append(outcome(plain, deed))
            self.assert_same(outcome(tried, deed), told[-1], deed)
        self.assert_same(told, self.wanted)
        self.assert_same(all_told(tried), all_told(plain))
        self.assert_answers(tried, due=[], marks=[[12, 1, [[2, 20], [3, 10], [4, 12]]], [85, 2, [[1, 45], [2, 40]]],
                                                  [61, 1, [[2, 60], [3, 70], [4, 61]]]])

    def test_each_refused_deed_by_itself(self):
        for place in range(len(self.deeds)):
            plain = Exam()
            for deed in self.deeds[:place]:
                outcome(plain, deed)
            for refused in self.refused_now(plain):
                tried = Exam()
                for deed in self.deeds[:place]:
                    outcome(tried, deed)
                self.assertTrue(issubclass(outcome(tried, refused), ReadError), refused)
                self.assert_same([outcome(tried, deed) for deed in self.deeds[place:]], self.wanted[place:], refused)
                self.assert_answers(tried, due=[], papers=[1, 2, 1], step=5, left=[3, 0, 0, 0])

    def test_full_twice(self):
        exam = ahead_and_full()
        before = all_told(exam)
        for turn in range(3):
            self.assertIs(outcome(exam, ("bring_paper", 1)), Full)
            self.assertIs(outcome(exam, ("bring_reader", 0, 5)), Full)
        self.assert_same(all_told(exam), before)
        self.assertIs(exam.deal(), True)
        self.assert_answers(exam, dealing=[[1, 2]] * 10)

    def test_two_hundred_refused_deeds(self):
        exam = Exam()
        for turn in range(199):
            self.assertIs(outcome(exam, ("bring_paper", 0)), UnknownNumber)
        self.assert_same(exam.bring_paper(6), 1)


if __name__ == "__main__":
    unittest.main()
