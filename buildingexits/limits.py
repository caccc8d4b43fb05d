"""The ranges and the error codes that the operations share."""

MAX_PEOPLE = 20
MAX_AREAS = 5
MAX_CAPACITY = 9
MAX_TRAVEL_TIME = 3
MAX_PASSAGES = 8
LAST_MINUTE = 5
MAX_STEPS = 12

NO_PLANNER = -11
NOT_FOUND = -2
OUT_OF_RANGE = -22
FULL = -28
NOT_POSSIBLE = -33


def is_capacity(capacity):
    return 1 <= capacity <= MAX_CAPACITY


def is_travel_time(travel_time):
    return 1 <= travel_time <= MAX_TRAVEL_TIME
