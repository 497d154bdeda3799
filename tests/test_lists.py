"""Point 1, through the exam: what is told belongs to the caller, and two exams share nothing."""

import itertools
import unittest

from secondread.errors import NotDue, OutOfTime
from secondread.exam import Exam
from tests.helper import QUESTIONS, PromiseCase, all_told, lists_within, outcome, outcomes

# Brings, deals in vain, deals, enters: with a third reader, without one, and with readings that agree.
DEEDS = [("bring_paper", 1), ("bring_reader", 1, 4), ("bring_reader", 0, 3), ("set_step", 5), ("deal",),
         ("bring_paper", 2), ("bring_paper", 1), ("bring_reader", 2, 2), ("bring_reader", 3, 1), ("deal",), ("deal",),
         ("enter", 2, 2, 40), ("enter", 1, 3, 10), ("enter", 1, 2, 20), ("enter", 3, 3, 70), ("enter", 2, 1, 45),
         ("enter", 3, 2, 60), ("enter", 1, 4, 12), ("enter", 3, 4, 7)]

OTHER_DEEDS = [("bring_reader", 0, 2), ("bring_reader", 0, 2), ("bring_paper", 6), ("bring_reader", 0, 1), ("deal",),
               ("set_step", 9), ("enter", 1, 1, 90), ("enter", 1, 2, 91), ("enter", 1, 3, 92), ("deal",)]


class ToldListsTest(PromiseCase):
    def spoil(self, value):
        for told in lists_within(value):
            told.append("changed")
            told.reverse()

    def test_each_list_that_is_told_is_changed_by_the_caller(self):
        kept = Exam()
        spoilt = Exam()
        for deed in [None] + DEEDS:
            if deed is not None:
                self.assert_same(outcome(spoilt, deed), outcome(kept, deed))
            wanted = all_told(kept)
            for question in QUESTIONS:
                self.spoil(getattr(spoilt, question)())
                self.assert_same(all_told(spoilt), wanted, (deed, question))

    def test_each_list_within_is_emptied_by_the_caller(self):
        kept = Exam()
        spoilt = Exam()
        for deed in DEEDS:
            self.assert_same(outcome(spoilt, deed), outcome(kept, deed))
            for question in QUESTIONS:
                told = getattr(spoilt, question)()
                for within in reversed(lists_within(told)):
                    within.clear()
            self.assert_same(all_told(spoilt), all_told(kept), deed)

    def test_no_list_is_told_twice(self):
        exam = Exam()
        for deed in DEEDS:
            outcome(exam, deed)
            told = lists_within([[getattr(exam, question)() for question in QUESTIONS] for turn in range(2)])
            self.assertEqual(len(set(map(id, told))), len(told), deed)

    def test_an_earlier_answer_is_not_changed_by_later_deeds(self):
        exam = Exam()
        told = []
        wanted = []
        for deed in DEEDS:
            outcome(exam, deed)
            told.append([getattr(exam, question)() for question in QUESTIONS])
            wanted.append(all_told(exam))
        self.assert_same(told, wanted)

    def test_what_these_deeds_answer(self):
        exam = Exam()
        self.assert_same(outcomes(exam, DEEDS), [1, 1, 2, 5, False, 2, 3, 3, 4, True, OutOfTime,
                                                 0, 0, 4, 0, 0, 0, 0, NotDue])
        self.assert_answers(exam, due=[], left=[3, 0, 0, 0],
                            marks=[[12, 1, [[2, 20], [3, 10], [4, 12]]], [85, 2, [[1, 45], [2, 40]]],
                                   [60, 1, [[2, 60], [3, 70]]]])


class TwoExamsTest(PromiseCase):
    def alone(self, deeds):
        exam = Exam()
        told = []
        for deed in deeds:
            told.append((outcome(exam, deed), all_told(exam)))
        return told

    def test_two_exams_done_in_turn(self):
        one = Exam()
        other = Exam()
        told_by_one = []
        told_by_other = []
        for deed, other_deed in itertools.zip_longest(DEEDS, OTHER_DEEDS):
            told_by_one.append((outcome(one, deed), all_told(one)))
            if other_deed is not None:
                told_by_other.append((outcome(other, other_deed), all_told(other)))
        self.assert_same(told_by_one, self.alone(DEEDS))
        self.assert_same(told_by_other, self.alone(OTHER_DEEDS))

    def test_two_exams_with_the_same_deeds(self):
        one = Exam()
        other = Exam()
        for deed in DEEDS:
            first = outcome(one, deed)
            self.assert_same(outcome(other, deed), first)
            told = lists_within([[getattr(exam, question)() for question in QUESTIONS] for exam in (one, other)])
            self.assertEqual(len(set(map(id, told))), len(told), deed)
        self.assert_same(all_told(one), all_told(other))

    def test_a_second_exam_behind_a_first_one(self):
        outcomes(Exam(), DEEDS)
        self.assert_answers(Exam(), papers=[], readers=[], step=0, dealt=False, dealing=None, against=None, due=[],
                            marks=[], left=[])

    def test_questions_change_nothing(self):
        asked = Exam()
        unasked = Exam()
        for deed in DEEDS:
            for turn in range(3):
                all_told(asked)
            self.assert_same(outcome(asked, deed), outcome(unasked, deed))
        self.assert_same(all_told(asked), all_told(unasked))


if __name__ == "__main__":
    unittest.main()
