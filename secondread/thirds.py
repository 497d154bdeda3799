"""The third reader for a paper whose two readings do not agree."""

from secondread.houses import readers_for


# The readings left are handed in: what was named since the dealing counts, not the limits alone.
def third_for(papers, readers, left, paper, row):
    for reader in readers_for(papers, readers, paper):
        if reader not in row and left[reader - 1] > 0:
            return reader
    return 0
