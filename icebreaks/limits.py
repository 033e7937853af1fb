"""The greatest numbers that a fairway takes."""

MOST_DAYS = 10
MOST_GROWTH = 30
MOST_TRIP_COST = 9999
MOST_THICKNESS = 999
