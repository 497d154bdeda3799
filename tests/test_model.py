"""Points 13 to 19: many exams of chance deeds, beside a second telling of the same points."""

import functools
import itertools
import random
import unittest
from fractions import Fraction

from secondread.errors import Full, NotDue, OutOfBounds, OutOfTime, ReadError, UnknownNumber
from secondread.exam import Exam
from tests.helper import PromiseCase, all_told, first_by_search, outcome


@functools.lru_cache(maxsize=None)
def first_of_all_sets(houses, rows):
    for size in range(1, len(houses) + 1):
        for chosen in itertools.combinations(range(1, len(houses) + 1), size):
            room = sum(min(limit, sum(houses[paper - 1] != house for paper in chosen)) for house, limit in rows)
            if room < 2 * size:
                return chosen
    return None


# All is kept as the deeds that were done, and every answer is worked out from them anew.
class SecondTelling:
    def __init__(self):
        self.houses = []
        self.rows = []
        self.set_steps = [0]
        self.deal_rows = None
        self.entered = []
        self.thirds = {}

    def refuse(self, *due):
        for error, holds in due:
            if holds:
                raise error

    def bring_paper(self, house):
        self.refuse((OutOfTime, self.dealt()), (UnknownNumber, house not in range(1, 7)),
                    (Full, len(self.houses) == 10))
        self.houses.append(house)
        return len(self.houses)

    def bring_reader(self, house, limit):
        self.refuse((OutOfTime, self.dealt()), (UnknownNumber, house not in range(7)),
                    (OutOfBounds, limit not in range(31)), (Full, len(self.rows) == 8))
        self.rows.append((house, limit))
        return len(self.rows)

    def set_step(self, step):
        self.refuse((OutOfTime, self.dealt()), (OutOfBounds, step not in range(101)))
        self.set_steps.append(step)
        return step

    def deal(self):
        self.refuse((OutOfTime, self.dealt()))
        self.deal_rows = first_by_search(self.houses, self.rows)
        return self.dealt()

    def enter(self, paper, reader, points):
        self.refuse((OutOfTime, not self.dealt()),
                    (UnknownNumber, paper not in range(1, len(self.houses) + 1)),
                    (UnknownNumber, reader not in range(1, len(self.rows) + 1)),
                    (NotDue, [paper, reader] not in self.due()),
                    (OutOfBounds, points not in range(101)))
        self.entered.append((paper, reader, points))
        mine = [row[2] for row in self.entered if row[0] == paper]
        if len(mine) != 2 or abs(mine[0] - mine[1]) <= self.step():
            return 0
        left = self.left()
        for number, (house, limit) in enumerate(self.rows, start=1):
            if house != self.houses[paper - 1] and number not in self.deal_rows[paper - 1] and left[number - 1] >= 1:
                self.thirds[paper] = number
                return number
        return 0

    def papers(self):
        return list(self.houses)

    def readers(self):
        return [list(row) for row in self.rows]

    def step(self):
        return self.set_steps[-1]

    def dealt(self):
        return self.deal_rows is not None

    def dealing(self):
        return None if self.deal_rows is None else [list(row) for row in self.deal_rows]

    def against(self):
        chosen = first_of_all_sets(tuple(self.houses), tuple(self.rows))
        return None if chosen is None else list(chosen)

    def named(self):
        rows = [[paper, reader] for paper, row in enumerate(self.deal_rows or [], start=1) for reader in row]
        return rows + [[paper, reader] for paper, reader in self.thirds.items()]

    def due(self):
        done = [[paper, reader] for paper, reader, points in self.entered]
        return sorted(row for row in self.named() if row not in done)

    def left(self):
        readers = [row[1] for row in self.named()]
        return [limit - readers.count(number) for number, (house, limit) in enumerate(self.rows, start=1)]

    def marks(self):
        waiting = [row[0] for row in self.due()]
        return [None if not self.dealt() or paper in waiting else self.mark(paper)
                for paper in range(1, len(self.houses) + 1)]

    def mark(self, paper):
        points = {row[1]: row[2] for row in self.entered if row[0] == paper}
        first, second = self.deal_rows[paper - 1]
        readings = [[first, points[first]], [second, points[second]]]
        if abs(points[first] - points[second]) <= self.step():
            fraction = Fraction(points[first] + points[second], 2)
        elif paper in self.thirds:
            readings.append([self.thirds[paper], points[self.thirds[paper]]])
            fraction = Fraction(sorted(points.values())[1])
        else:
            fraction = Fraction(min(points.values()))
        return [fraction.numerator, fraction.denominator, readings]


class ChanceDeedsTest(PromiseCase):
    def some_number(self, source, least, most):
        if source.random() < 0.04:
            return source.choice((least - 1, most + 1, -10 ** 30, 10 ** 30, -most))
        return source.randint(least, most)

    def some_deed_ahead(self, source, most_limit):
        kind = source.choice(("bring_paper",) * 4 + ("bring_reader",) * 4 + ("set_step", "deal", "enter"))
        if kind == "bring_paper":
            return (kind, self.some_number(source, 1, source.choice((3, 6))))
        if kind == "bring_reader":
            return (kind, self.some_number(source, 0, source.choice((3, 6))), self.some_number(source, 0, most_limit))
        if kind == "set_step":
            return (kind, self.some_number(source, 0, source.choice((5, 30, 100))))
        if kind == "deal":
            return (kind,)
        return (kind, source.randint(0, 3), source.randint(0, 3), source.randint(0, 100))

    def some_deed_behind(self, source, due):
        if source.random() < 0.1:
            return source.choice((("bring_paper", 1), ("bring_reader", 9, 3), ("set_step", 200), ("deal",)))
        points = self.some_number(source, 0, 100)
        if due and source.random() < 0.8:
            row = source.choice(due)
            return ("enter", row[0], row[1], points)
        return ("enter", self.some_number(source, 1, 10), self.some_number(source, 1, 8), points)

    def test_chance_deeds_answer_as_in_the_second_telling(self):
        met = {}
        for seed in range(40):
            source = random.Random(seed)
            most_limit = source.choice((4, 8, 30))
            exam = Exam()
            second = SecondTelling()
            for turn in range(100):
                if second.dealt():
                    deed = self.some_deed_behind(source, second.due())
                else:
                    deed = self.some_deed_ahead(source, most_limit)
                wanted = outcome(second, deed)
                self.assert_same(outcome(exam, deed), wanted, (seed, turn, deed))
                self.assert_same(all_told(exam), all_told(second), (seed, turn, deed))
                met[self.seen(deed, wanted)] = True
                if second.dealt() and second.due() == [] and source.random() < 0.1:
                    break
        self.assertLessEqual(set(self.to_be_met()), set(met))

    def seen(self, deed, wanted):
        refused = isinstance(wanted, type) and issubclass(wanted, ReadError)
        return (deed[0], wanted if refused else deed[0] in ("deal", "enter") and bool(wanted))

    def to_be_met(self):
        return [("bring_paper", error) for error in (False, OutOfTime, UnknownNumber, Full)] + [
            ("bring_reader", error) for error in (False, OutOfTime, UnknownNumber, OutOfBounds, Full)] + [
            ("set_step", error) for error in (False, OutOfTime, OutOfBounds)] + [
            ("deal", told) for told in (False, True, OutOfTime)] + [
            ("enter", told) for told in (False, True, OutOfTime, UnknownNumber, NotDue, OutOfBounds)]


if __name__ == "__main__":
    unittest.main()
