"""The desk: rows of words, done with one new exam and answered with one text each."""

from secondread.errors import Full, NotDue, OutOfBounds, OutOfTime, UnknownNumber
from secondread.exam import Exam

QUESTIONS = ("dealing", "against", "due", "marks", "left")


def answers(rows):
    exam = Exam()
    return [answer_to(exam, row) for row in rows]


def answer_to(exam, row):
    words = row.split(" ")
    if words[0] in QUESTIONS:
        return told_of(exam, words[0])
    numbers = [int(word) for word in words[1:]]
    return done_or_refused(exam, words[0], numbers)


def done_or_refused(exam, deed, numbers):
    try:
        return done(exam, deed, numbers)
    except OutOfTime:
        return "refused: out of time"
    except UnknownNumber:
        return "refused: unknown number"
    except NotDue:
        return "refused: not due"
    except OutOfBounds:
        return "refused: out of bounds"
    except Full:
        return "refused: full"


def done(exam, deed, numbers):
    if deed == "paper":
        return str(exam.bring_paper(numbers[0]))
    if deed == "reader":
        return str(exam.bring_reader(numbers[0], numbers[1]))
    if deed == "step":
        return str(exam.set_step(numbers[0]))
    if deed == "enter":
        return str(exam.enter(numbers[0], numbers[1], numbers[2]))
    return "dealt" if exam.deal() else "no dealing"


def told_of(exam, question):
    if question == "dealing":
        return told_dealing(exam.dealing())
    if question == "against":
        return told_against(exam.against())
    if question == "due":
        return in_one_row([due_part(row[0], row[1]) for row in exam.due()])
    if question == "marks":
        return in_one_row([mark_part(paper, mark) for paper, mark in enumerate(exam.marks(), start=1)])
    return in_one_row([str(number) for number in exam.left()])


def told_dealing(rows):
    if rows is None:
        return "not dealt"
    return in_one_row([dealing_part(paper, row[0], row[1]) for paper, row in enumerate(rows, start=1)])


def told_against(chosen):
    if chosen is None:
        return in_one_row([])
    return in_one_row([str(paper) for paper in chosen])


def in_one_row(parts):
    if len(parts) == 0:
        return "none"
    return " ".join(parts)


def dealing_part(paper, first, second):
    return f"{paper}:{first}+{second}"


def due_part(paper, reader):
    return f"{paper}:{reader}"


def mark_part(paper, mark):
    if mark is None:
        return f"{paper}:open"
    top = mark[0]
    bottom = mark[1]
    readings = ",".join([reading_part(row[0], row[1]) for row in mark[2]])
    return f"{paper}:{top}/{bottom}({readings})"


def reading_part(reader, points):
    return f"{reader}={points}"
