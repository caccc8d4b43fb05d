"""Calls by name, for the tests: written as one list of numbers, and the answers read back."""

from buildingexits.planner import answers

NAMES = (
    "create", "add_area", "set_people", "set_exit", "add_passage", "remove_passage", "set_capacity",
    "reverse_passages", "list_areas", "list_passages", "max_evacuated", "min_remaining",
    "earliest_evacuation", "min_cut", "cut_capacity", "is_valid_plan", "evacuated_by_plan",
    "earliest_if_capacity", "earliest_if_people", "max_people", "critical_passages",
    "outgoing_passages", "get_state",
)

LARGEST = 4294967295


def written(calls):
    """The one list of numbers for calls such as ("add_area", 5, 0)."""
    numbers = []
    for call in calls:
        numbers.append(NAMES.index(call[0]))
        for argument in call[1:]:
            if isinstance(argument, list):
                numbers.append(len(argument))
                numbers.extend(argument)
            else:
                numbers.append(argument)
    return numbers


def split(answered):
    """The answer of each call, from the one list that is given back."""
    found = []
    start = 0
    while start < len(answered):
        end = start + 1 + answered[start]
        if end > len(answered):
            raise ValueError("the last answer is cut short")
        found.append(answered[start + 1:end])
        start = end
    return found


def run(*calls):
    """The answer of each call of one session."""
    found = split(answers(written(calls)))
    if len(found) != len(calls):
        raise ValueError(f"{len(calls)} calls, {len(found)} answers")
    return found


def last(*calls):
    return run(*calls)[-1]


LISTINGS = (("list_areas",), ("list_passages",))
STATE = (*LISTINGS, ("get_state",))


def listed(*calls):
    """What list_areas and list_passages answer behind these calls."""
    return run(*calls, *LISTINGS)[-2:]


def seen(*calls):
    """What the listings and get_state answer behind these calls."""
    return run(*calls, *STATE)[-3:]


def answers_of(areas, passages, *calls):
    """What the calls answer behind those that make a building."""
    start = building_calls(areas, passages)
    return run(*start, *calls)[len(start):]


def building_calls(areas, passages):
    """The calls that make a building of rows (people, is_exit) and (source, target, capacity, travel_time)."""
    calls = [("create",)]
    calls.extend([("add_area", *area) for area in areas])
    calls.extend([("add_passage", *passage) for passage in passages])
    return calls
