"""The exam: what is brought to it, its dealing, and the readings that are entered."""

from secondread.against import first_against
from secondread.bounds import MOST_HOUSES, MOST_LIMIT, MOST_PAPERS, MOST_POINTS, MOST_READERS, MOST_STEP
from secondread.dealing import first_dealing, left_after
from secondread.errors import NotDue, OutOfTime
from secondread.marks import agree, mark_of
from secondread.refusals import refuse_full, refuse_out_of_bounds, refuse_unknown
from secondread.thirds import third_for


# For each paper, behind the dealing, named_readers holds the readers of its row and behind them the third one,
# and entered_points the points by reader. All that is told of readings comes from these two, as copies.
class Exam:
    def __init__(self):
        self.paper_houses = []
        self.reader_rows = []
        self.widest_step = 0
        self.is_dealt = False
        self.named_readers = []
        self.entered_points = []

    def bring_paper(self, house):
        self.refuse_behind_dealing()
        refuse_unknown(house, 1, MOST_HOUSES)
        refuse_full(len(self.paper_houses), MOST_PAPERS)
        self.paper_houses.append(house)
        return len(self.paper_houses)

    def bring_reader(self, house, limit):
        self.refuse_behind_dealing()
        refuse_unknown(house, 0, MOST_HOUSES)
        refuse_out_of_bounds(limit, MOST_LIMIT)
        refuse_full(len(self.reader_rows), MOST_READERS)
        self.reader_rows.append([house, limit])
        return len(self.reader_rows)

    def set_step(self, step):
        self.refuse_behind_dealing()
        refuse_out_of_bounds(step, MOST_STEP)
        self.widest_step = step
        return step

    def deal(self):
        self.refuse_behind_dealing()
        rows = first_dealing(self.paper_houses, self.reader_rows)
        if rows is None:
            return False
        self.is_dealt = True
        self.named_readers = rows
        self.entered_points = [{} for row in rows]
        return True

    def enter(self, paper, reader, points):
        self.refuse_ahead_of_dealing()
        refuse_unknown(paper, 1, len(self.paper_houses))
        refuse_unknown(reader, 1, len(self.reader_rows))
        self.refuse_not_due(paper, reader)
        refuse_out_of_bounds(points, MOST_POINTS)
        self.entered_points[paper - 1][reader] = points
        return self.name_third(paper)

    def papers(self):
        return list(self.paper_houses)

    def readers(self):
        return [list(row) for row in self.reader_rows]

    def step(self):
        return self.widest_step

    def dealt(self):
        return self.is_dealt

    def dealing(self):
        if not self.is_dealt:
            return None
        return [named[:2] for named in self.named_readers]

    def against(self):
        if self.is_dealt:
            return None
        return first_against(self.paper_houses, self.reader_rows)

    def due(self):
        rows = []
        for paper in range(1, len(self.named_readers) + 1):
            rows.extend([[paper, reader] for reader in self.due_readers(paper)])
        return rows

    def marks(self):
        if not self.is_dealt:
            return [None for house in self.paper_houses]
        return [self.mark_for(paper) for paper in range(1, len(self.paper_houses) + 1)]

    # A third reader stands in no row of the dealing of that paper: so each named reading counts once.
    def left(self):
        return left_after(self.reader_rows, self.named_readers)

    def refuse_behind_dealing(self):
        if self.is_dealt:
            raise OutOfTime("this is done ahead of the dealing")

    def refuse_ahead_of_dealing(self):
        if not self.is_dealt:
            raise OutOfTime("this is done behind the dealing")

    def refuse_not_due(self, paper, reader):
        if reader not in self.due_readers(paper):
            raise NotDue("this reader owes no reading of this paper")

    # A row has the lesser number first, and a third reading is only due when both others are in:
    # so these come by their numbers.
    def due_readers(self, paper):
        entered = self.entered_points[paper - 1]
        return [reader for reader in self.named_readers[paper - 1] if reader not in entered]

    # The points come in the order in which the readers were named, not in the order in which they were entered.
    def points_for(self, paper):
        entered = self.entered_points[paper - 1]
        return [entered[reader] for reader in self.named_readers[paper - 1]]

    def mark_for(self, paper):
        if len(self.due_readers(paper)) > 0:
            return None
        points = self.points_for(paper)
        readings = [[reader, given] for reader, given in zip(self.named_readers[paper - 1], points)]
        return mark_of(points, self.widest_step) + [readings]

    def name_third(self, paper):
        if not self.needs_third(paper):
            return 0
        named = self.named_readers[paper - 1]
        third = third_for(self.paper_houses, self.reader_rows, self.left(), paper, named)
        if third > 0:
            named.append(third)
        return third

    def needs_third(self, paper):
        if len(self.named_readers[paper - 1]) > 2 or len(self.due_readers(paper)) > 0:
            return False
        points = self.points_for(paper)
        return not agree(points[0], points[1], self.widest_step)
