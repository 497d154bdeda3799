"""Points 1, 21, 22 and 23: the desk."""

import random
import unittest

from secondread.desk import answers
from secondread.errors import Full, NotDue, OutOfBounds, OutOfTime, UnknownNumber
from secondread.exam import Exam
from tests.helper import PromiseCase, outcome

QUESTIONS = ["dealing", "against", "due", "marks", "left"]
REFUSALS = {OutOfTime: "refused: out of time", UnknownNumber: "refused: unknown number", NotDue: "refused: not due",
            OutOfBounds: "refused: out of bounds", Full: "refused: full"}
DEEDS = {"paper": "bring_paper", "reader": "bring_reader", "step": "set_step", "deal": "deal", "enter": "enter"}

# Of 30 figures each, and of fewer.
FAR_OFF = ("1" + "0" * 29, "-1" + "0" * 29, "9" * 30, "-" + "9" * 30, "4" * 17, "-" + "4" * 17)


def rows_of(text):
    return [row.strip() for row in text.strip().split("\n")]


class DeskCase(PromiseCase):
    # Each line holds a row and, behind ` -> `, its answer.
    def assert_talk(self, text):
        pairs = [line.split(" -> ") for line in rows_of(text)]
        rows = [pair[0] for pair in pairs]
        told = answers(rows)
        self.assertIs(type(told), list)
        self.assertEqual(list(zip(rows, told)), [tuple(pair) for pair in pairs])
        for answer in told:
            self.assertIs(type(answer), str)


class WholeTalkTest(DeskCase):
    def test_no_rows(self):
        self.assert_same(answers([]), [])

    def test_a_whole_exam(self):
        self.assert_talk("""
            dealing -> not dealt
            against -> none
            due -> none
            marks -> none
            left -> none
            paper 1 -> 1
            paper 2 -> 2
            reader 0 2 -> 1
            left -> 2
            against -> 1
            deal -> no dealing
            dealing -> not dealt
            reader 1 2 -> 2
            marks -> 1:open 2:open
            against -> 1
            reader 0 2 -> 3
            against -> none
            reader 3 1 -> 4
            step 5 -> 5
            enter 1 1 50 -> refused: out of time
            due -> none
            left -> 2 2 2 1
            deal -> dealt
            dealing -> 1:1+3 2:1+2
            against -> none
            due -> 1:1 1:3 2:1 2:2
            marks -> 1:open 2:open
            left -> 0 1 1 1
            enter 1 1 50 -> 0
            due -> 1:3 2:1 2:2
            enter 2 2 7 -> 0
            enter 1 3 56 -> 4
            due -> 1:4 2:1
            marks -> 1:open 2:open
            left -> 0 1 1 0
            enter 2 1 10 -> 0
            marks -> 1:open 2:17/2(1=10,2=7)
            enter 1 4 53 -> 0
            due -> none
            marks -> 1:53/1(1=50,3=56,4=53) 2:17/2(1=10,2=7)
            left -> 0 1 1 0
            dealing -> 1:1+3 2:1+2
            """)

    def test_no_papers(self):
        self.assert_talk("""
            reader 0 3 -> 1
            reader 6 0 -> 2
            deal -> dealt
            dealing -> none
            against -> none
            due -> none
            marks -> none
            left -> 3 0
            """)

    def test_no_readers(self):
        self.assert_talk("""
            deal -> dealt
            left -> none
            """)
        self.assert_talk("""
            paper 3 -> 1
            deal -> no dealing
            left -> none
            marks -> 1:open
            against -> 1
            """)

    def test_two_readings_that_differ_and_nobody_left(self):
        self.assert_talk("""
            paper 6 -> 1
            reader 0 1 -> 1
            reader 0 1 -> 2
            deal -> dealt
            enter 1 2 100 -> 0
            enter 1 1 0 -> 0
            marks -> 1:0/1(1=0,2=100)
            due -> none
            left -> 0 0
            """)

    def test_sets_of_several_papers(self):
        self.assert_talk("""
            paper 1 -> 1
            paper 2 -> 2
            paper 1 -> 3
            reader 1 5 -> 1
            reader 0 2 -> 2
            reader 2 1 -> 3
            against -> 1 3
            reader 2 1 -> 4
            against -> 1 2 3
            deal -> no dealing
            reader 3 1 -> 5
            against -> none
            deal -> dealt
            dealing -> 1:2+3 2:1+2 3:4+5
            """)

    def test_a_step_that_is_set_again(self):
        self.assert_talk("""
            step 100 -> 100
            step 0 -> 0
            step 1 -> 1
            paper 1 -> 1
            reader 0 1 -> 1
            reader 0 1 -> 2
            reader 0 1 -> 3
            deal -> dealt
            enter 1 1 9 -> 0
            enter 1 2 11 -> 3
            enter 1 3 100 -> 0
            marks -> 1:11/1(1=9,2=11,3=100)
            """)


class RefusedTest(DeskCase):
    def test_out_of_time(self):
        self.assert_talk("""
            enter 1 1 1 -> refused: out of time
            deal -> dealt
            deal -> refused: out of time
            paper 1 -> refused: out of time
            reader 0 1 -> refused: out of time
            step 4 -> refused: out of time
            paper 0 -> refused: out of time
            reader 7 31 -> refused: out of time
            step 101 -> refused: out of time
            dealing -> none
            """)

    def test_unknown_number(self):
        self.assert_talk("""
            paper 0 -> refused: unknown number
            paper 7 -> refused: unknown number
            paper -1 -> refused: unknown number
            reader -1 5 -> refused: unknown number
            reader 7 5 -> refused: unknown number
            reader 7 31 -> refused: unknown number
            left -> none
            marks -> none
            paper 6 -> 1
            reader 0 30 -> 1
            reader 5 30 -> 2
            deal -> dealt
            enter 0 1 5 -> refused: unknown number
            enter 2 1 5 -> refused: unknown number
            enter -1 1 5 -> refused: unknown number
            enter 1 0 5 -> refused: unknown number
            enter 1 3 5 -> refused: unknown number
            enter 1 -2 500 -> refused: unknown number
            due -> 1:1 1:2
            """)

    def test_not_due(self):
        self.assert_talk("""
            paper 6 -> 1
            reader 0 30 -> 1
            reader 0 30 -> 2
            reader 0 30 -> 3
            deal -> dealt
            enter 1 3 50 -> refused: not due
            enter 1 3 101 -> refused: not due
            enter 1 2 50 -> 0
            enter 1 2 50 -> refused: not due
            enter 1 1 50 -> 0
            enter 1 1 50 -> refused: not due
            marks -> 1:50/1(1=50,2=50)
            """)

    def test_out_of_bounds(self):
        self.assert_talk("""
            reader 0 31 -> refused: out of bounds
            reader 6 -1 -> refused: out of bounds
            step 101 -> refused: out of bounds
            step -1 -> refused: out of bounds
            paper 1 -> 1
            reader 0 30 -> 1
            reader 6 30 -> 2
            deal -> dealt
            enter 1 1 101 -> refused: out of bounds
            enter 1 1 -1 -> refused: out of bounds
            due -> 1:1 1:2
            left -> 29 29
            """)

    def test_full(self):
        rows = ["paper 1"] * 11 + ["reader 0 30"] * 9 + ["marks", "left"]
        self.assertEqual(answers(rows), [str(number) for number in range(1, 11)] + ["refused: full"]
                         + [str(number) for number in range(1, 9)] + ["refused: full"]
                         + [" ".join(f"{number}:open" for number in range(1, 11)), " ".join(["30"] * 8)])
        rows = ["paper 1"] * 10 + ["reader 0 30"] * 8 + ["paper 7", "reader 7 1", "reader 0 31"]
        self.assertEqual(answers(rows)[-3:], ["refused: unknown number"] * 2 + ["refused: out of bounds"])

    def test_numbers_of_thirty_figures(self):
        for number in FAR_OFF:
            self.assertLessEqual(len(number.lstrip("-")), 30)
            self.assert_talk(f"""
                paper {number} -> refused: unknown number
                reader {number} 5 -> refused: unknown number
                reader 0 {number} -> refused: out of bounds
                reader {number} {number} -> refused: unknown number
                step {number} -> refused: out of bounds
                enter {number} {number} {number} -> refused: out of time
                paper 1 -> 1
                reader 0 30 -> 1
                reader 0 30 -> 2
                reader 0 30 -> 3
                deal -> dealt
                paper {number} -> refused: out of time
                reader {number} {number} -> refused: out of time
                step {number} -> refused: out of time
                enter {number} 1 5 -> refused: unknown number
                enter 1 {number} 5 -> refused: unknown number
                enter 1 1 {number} -> refused: out of bounds
                enter 1 3 {number} -> refused: not due
                dealing -> 1:1+2
                due -> 1:1 1:2
                left -> 29 29 30
                """)


class TwoCallsTest(DeskCase):
    rows = ["paper 1", "reader 0 1", "reader 0 1", "left", "deal", "marks", "enter 1 1 4", "due"]
    told = ["1", "1", "2", "1 1", "dealt", "1:open", "0", "1:2"]

    def test_two_calls_share_nothing(self):
        for turn in range(3):
            self.assert_same(answers(self.rows), self.told)
        self.assert_same(answers(["marks", "left", "dealing"]), ["none", "none", "not dealt"])

    def test_the_rows_that_are_handed_in_stay_as_they_are(self):
        self.assert_leaves_alone(answers, list(self.rows))
        self.assert_leaves_alone(answers, [])
        self.assert_leaves_alone(answers, ["paper 9", "enter 1 1 1", "deal", "deal"])

    def test_what_is_told_belongs_to_the_caller(self):
        self.assert_shares_no_list(answers, [])
        self.assert_shares_no_list(answers, list(self.rows))
        rows = list(self.rows)
        self.assertIsNot(answers(rows), rows)


class BesideTheExamTest(DeskCase):
    def text_of(self, exam, row):
        words = row.split()
        if words[0] in QUESTIONS:
            return getattr(self, "text_of_" + words[0])(exam) or "none"
        told = outcome(exam, (DEEDS[words[0]],) + tuple(int(word) for word in words[1:]))
        if words[0] == "deal" and told in (True, False):
            return "dealt" if told else "no dealing"
        return REFUSALS[told] if told in REFUSALS else "%d" % told

    def text_of_dealing(self, exam):
        if not exam.dealt():
            return "not dealt"
        return " ".join("%d:%d+%d" % (paper, *row) for paper, row in enumerate(exam.dealing(), start=1))

    def text_of_against(self, exam):
        return " ".join("%d" % paper for paper in exam.against() or [])

    def text_of_due(self, exam):
        return " ".join("%d:%d" % tuple(row) for row in exam.due())

    def text_of_left(self, exam):
        return " ".join("%d" % number for number in exam.left())

    def text_of_marks(self, exam):
        parts = []
        for paper, mark in enumerate(exam.marks(), start=1):
            if mark is None:
                parts.append("%d:open" % paper)
            else:
                readings = ",".join("%d=%d" % tuple(row) for row in mark[2])
                parts.append("%d:%d/%d(%s)" % (paper, mark[0], mark[1], readings))
        return " ".join(parts)

    def some_number(self, source, most):
        return source.choice(FAR_OFF) if source.random() < 0.03 else str(source.randint(-1 if most > 8 else 0, most))

    def some_rows(self, source, turn):
        rows = []
        kinds = ("paper",) * 6 + ("reader",) * 8 + ("step", "question", "question", "enter") + ("deal",) * (turn % 2)
        for place in range(source.randint(4, 40)):
            kind = source.choice(kinds)
            rows.append({"paper": f"paper {self.some_number(source, 7)}",
                         "reader": f"reader {self.some_number(source, 7)} {self.some_number(source, 31)}",
                         "step": f"step {self.some_number(source, 60)}",
                         "deal": "deal",
                         "question": source.choice(QUESTIONS),
                         "enter": "enter 1 1 1"}[kind])
        rows.append("deal")
        while len(rows) < 200:
            rows.append(f"enter {source.randint(1, 8)} {source.randint(1, 6)} {self.some_number(source, 101)}")
            if source.random() < 0.3:
                rows.append(source.choice(QUESTIONS))
        return rows[:200]

    def test_two_hundred_rows_are_answered_as_the_exam_answers(self):
        met = {}
        for seed in range(30):
            rows = self.some_rows(random.Random(seed), seed)
            self.assertEqual(len(rows), 200)
            exam = Exam()
            wanted = [self.text_of(exam, row) for row in rows]
            told = answers(rows)
            self.assertEqual(list(zip(rows, told)), list(zip(rows, wanted)), seed)
            for text in told:
                met[text] = True
        for text in ("dealt", "no dealing", "not dealt", "none") + tuple(REFUSALS.values()):
            self.assertIn(text, met)
        for commas in (1, 2):
            self.assertTrue(any(part.count(",") == commas for text in met for part in text.split()))


if __name__ == "__main__":
    unittest.main()
