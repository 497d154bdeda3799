"""The most that there can be of each thing."""

MOST_PAPERS = 10
MOST_READERS = 8
MOST_HOUSES = 6
MOST_LIMIT = 30
MOST_POINTS = 100
MOST_STEP = 100
