"""The numbers that bound a day and its tables, and those that refuse a call."""

MOST_MINUTES = 400
MOST_TABLES = 5
MOST_TAKEN = 9
MOST_CUPS = 100000
MOST_PASSES = 6
MOST_RUNNERS = 1000
MOST_DELIVERIES = 6

NO_TABLE = -2
NONE_THERE = -6
NOT_AS_TOLD = -22
FULL = -28
CANNOT_BE = -33
NOT_BEGUN = -61
