"""When everybody can be out, and what that depends on (operations 12 and 17 to 20).

What would be if something were otherwise is asked of another building, so that the one
that is asked about stays as it is.
"""

from buildingexits.building import has_area, has_passage, total_people, with_capacity, with_people
from buildingexits.evacuation import most_evacuated
from buildingexits.limits import LAST_MINUTE, MAX_PEOPLE, NOT_FOUND, NOT_POSSIBLE, OUT_OF_RANGE, is_capacity


def all_can_be_out(building, minute):
    return most_evacuated(building, minute) == total_people(building)


def earliest_minute(building):
    """The first minute by which everybody can be out, or None."""
    for minute in range(LAST_MINUTE + 1):
        if all_can_be_out(building, minute):
            return minute
    return None


def earliest_evacuation(building):
    minute = earliest_minute(building)
    if minute is None:
        return [NOT_POSSIBLE]
    return [minute]


def earliest_if_capacity(building, passage, capacity):
    if not has_passage(building, passage):
        return [NOT_FOUND]
    if not is_capacity(capacity):
        return [OUT_OF_RANGE]
    return earliest_evacuation(with_capacity(building, passage, capacity))


def earliest_if_people(building, area, people):
    if not has_area(building, area):
        return [NOT_FOUND]
    if people > MAX_PEOPLE:
        return [OUT_OF_RANGE]
    return earliest_evacuation(with_people(building, area, people))


def most_people(building, area, minute):
    """The largest number in the area with which all can be out, where they can with nobody in it."""
    # Fewer people never make it worse, so the number is found by halving what is in question.
    enough = 0
    at_most = MAX_PEOPLE
    while enough < at_most:
        middle = (enough + at_most + 1) // 2
        if all_can_be_out(with_people(building, area, middle), minute):
            enough = middle
        else:
            at_most = middle - 1
    return enough


def max_people(building, area, minute):
    if not has_area(building, area):
        return [NOT_FOUND]
    if minute > LAST_MINUTE:
        return [OUT_OF_RANGE]
    if not all_can_be_out(with_people(building, area, 0), minute):
        return [NOT_POSSIBLE]
    return [most_people(building, area, minute)]


def is_critical(building, passage, minute):
    capacity = building.passages[passage].capacity
    if capacity == 1:
        return True
    return not all_can_be_out(with_capacity(building, passage, capacity - 1), minute)


def critical_passages(building):
    minute = earliest_minute(building)
    if minute is None:
        return [NOT_POSSIBLE]
    found = [passage for passage in range(len(building.passages)) if is_critical(building, passage, minute)]
    return [len(found)] + found
