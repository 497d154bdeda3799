"""The dealing: each paper to two readers, and of all dealings the first one."""

from secondread.houses import may_read, readers_for
from secondread.suffice import readers_suffice


def is_dealing(papers, readers, rows):
    if len(rows) != len(papers):
        return False
    for paper, row in enumerate(rows, start=1):
        if not is_row_for(papers, readers, paper, row):
            return False
    return keeps_to_limits(readers, rows)


# The numbers may be any: they are held against the readers' numbers before a reader is looked up by them.
def is_row_for(papers, readers, paper, row):
    first = row[0]
    second = row[1]
    if first < 1 or first >= second or second > len(readers):
        return False
    return may_read(papers, readers, paper, first) and may_read(papers, readers, paper, second)


def keeps_to_limits(readers, rows):
    return all([left >= 0 for left in left_after(readers, rows)])


def left_after(readers, rows):
    return [row[1] - times_in(rows, reader) for reader, row in enumerate(readers, start=1)]


def times_in(rows, reader):
    return len([row for row in rows if reader in row])


# A row is kept only where the papers behind it can still be dealt: so no row is ever taken back.
def first_dealing(papers, readers):
    rows = []
    while len(rows) < len(papers):
        row = first_row_behind(papers, readers, rows)
        if row is None:
            return None
        rows.append(row)
    return rows


def first_row_behind(papers, readers, rows):
    paper = len(rows) + 1
    for row in pairs_of(readers_for(papers, readers, paper)):
        if can_go_on(papers, readers, rows + [row]):
            return row
    return None


def pairs_of(numbers):
    pairs = []
    for place, first in enumerate(numbers):
        for second in numbers[place + 1:]:
            pairs.append([first, second])
    return pairs


def can_go_on(papers, readers, rows):
    if not keeps_to_limits(readers, rows):
        return False
    return readers_suffice(papers[len(rows):], with_limits(readers, left_after(readers, rows)))


def with_limits(readers, limits):
    return [[row[0], limit] for row, limit in zip(readers, limits)]
