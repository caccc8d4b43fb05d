"""The operations that change a building (1 to 7).

Each one answers a list of numbers: what the operation returns, or an error code alone.
All errors are looked for before anything is changed.
"""

from buildingexits.building import Area, Passage, has_area, has_passage, put_capacity, put_people
from buildingexits.limits import FULL, MAX_AREAS, MAX_PASSAGES, MAX_PEOPLE, NOT_FOUND, OUT_OF_RANGE
from buildingexits.limits import is_capacity, is_travel_time


def add_area(building, people, is_exit):
    if people > MAX_PEOPLE or is_exit > 1:
        return [OUT_OF_RANGE]
    if len(building.areas) >= MAX_AREAS:
        return [FULL]
    building.areas.append(Area(people, is_exit))
    return [len(building.areas) - 1]


def set_people(building, area, people):
    if not has_area(building, area):
        return [NOT_FOUND]
    if people > MAX_PEOPLE:
        return [OUT_OF_RANGE]
    previous = building.areas[area].people
    put_people(building, area, people)
    return [previous]


def set_exit(building, area, is_exit):
    if not has_area(building, area):
        return [NOT_FOUND]
    if is_exit > 1:
        return [OUT_OF_RANGE]
    previous = building.areas[area]
    building.areas[area] = Area(previous.people, is_exit)
    return [previous.is_exit]


def add_passage(building, source, target, capacity, travel_time):
    if not has_area(building, source) or not has_area(building, target):
        return [NOT_FOUND]
    if source == target or not is_capacity(capacity) or not is_travel_time(travel_time):
        return [OUT_OF_RANGE]
    if len(building.passages) >= MAX_PASSAGES:
        return [FULL]
    building.passages.append(Passage(source, target, capacity, travel_time))
    return [len(building.passages) - 1]


def remove_passage(building, passage):
    if not has_passage(building, passage):
        return [NOT_FOUND]
    building.passages.pop(passage)
    return [len(building.passages)]


def set_capacity(building, passage, capacity):
    if not has_passage(building, passage):
        return [NOT_FOUND]
    if not is_capacity(capacity):
        return [OUT_OF_RANGE]
    previous = building.passages[passage].capacity
    put_capacity(building, passage, capacity)
    return [previous]


def reverse_passages(building):
    building.passages = [
        Passage(passage.target, passage.source, passage.capacity, passage.travel_time)
        for passage in building.passages
    ]
    return [len(building.passages)]
