"""The ranges and the error codes that the operations share."""

MAX_PEOPLE = 20
MAX_AREAS = 5
MAX_CAPACITY = 9
MAX_TRAVEL_TIME = 3
MAX_PASSAGES = 8
LAST_MINUTE = 5

NO_PLANNER = -11
NOT_FOUND = -2
OUT_OF_RANGE = -22
FULL = -28
