"""Who may read what, by the houses of papers and readers."""


# No paper comes from house 0, so a reader of no house needs no case of its own.
def may_read(papers, readers, paper, reader):
    reader_house = readers[reader - 1][0]
    return reader_house != papers[paper - 1]


def readers_for(papers, readers, paper):
    return [reader for reader in range(1, len(readers) + 1) if may_read(papers, readers, paper, reader)]


def papers_for(papers, readers, reader):
    return [paper for paper in range(1, len(papers) + 1) if may_read(papers, readers, paper, reader)]
