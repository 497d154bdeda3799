"""The room that the readers have for a set of papers, and the sets for which it does not suffice."""

from secondread.houses import may_read
from secondread.sets import sets_of


def room(papers, readers, chosen):
    return sum([room_of(papers, readers, chosen, reader) for reader in range(1, len(readers) + 1)])


def room_of(papers, readers, chosen, reader):
    limit = readers[reader - 1][1]
    may_be_read = [paper for paper in chosen if may_read(papers, readers, paper, reader)]
    return min(limit, len(may_be_read))


def is_against(papers, readers, chosen):
    return room(papers, readers, chosen) < 2 * len(chosen)


def first_against(papers, readers):
    for chosen in sets_of(len(papers)):
        if is_against(papers, readers, chosen):
            return chosen
    return None
