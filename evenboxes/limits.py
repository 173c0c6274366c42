"""The greatest numbers that orders, tables and searches may have."""

MOST_KINDS = 4
MOST_PEOPLE = 3
MOST_COUNT = 3
MOST_WORTH = 6
MOST_SHARE = 3
MOST_BOXES = 12
MOST_ROWS = 2000
MOST_NUMBER = 1000
MOST_TRIED = 6
