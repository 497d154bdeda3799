"""Whether the readers suffice for the papers: whether there is any dealing, whichever it is."""

from secondread.houses import readers_for

READERS_EACH = 2


def readers_suffice(papers, readers):
    attempt = Attempt(papers, readers)
    for paper in range(1, len(papers) + 1):
        for turn in range(READERS_EACH):
            if not attempt.find_reader(paper, {}):
                return False
    return True


# Readers are given to papers one by one, and papers may still pass from reader to reader:
# so nothing given early stands in the way of a later paper for good.
class Attempt:
    def __init__(self, papers, readers):
        self.allowed = [readers_for(papers, readers, paper) for paper in range(1, len(papers) + 1)]
        self.given = [[] for house in papers]
        self.spare = [row[1] for row in readers]

    # Within one search nobody is asked twice: whoever is asked again could only ask the same others.
    def find_reader(self, paper, asked):
        for reader in self.allowed[paper - 1]:
            if reader in asked or reader in self.given[paper - 1]:
                continue
            asked[reader] = True
            if self.free_reading(reader, asked):
                self.given[paper - 1].append(reader)
                return True
        return False

    # A reader at the limit can still take a paper where another one of this reader's papers
    # finds somebody else.
    def free_reading(self, reader, asked):
        if self.spare[reader - 1] > 0:
            self.spare[reader - 1] -= 1
            return True
        for paper in range(1, len(self.given) + 1):
            if reader in self.given[paper - 1] and self.find_reader(paper, asked):
                self.given[paper - 1].remove(reader)
                return True
        return False
