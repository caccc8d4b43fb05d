"""The operations that tell what a building has (8, 9, 21 and 22)."""

from buildingexits.building import has_area, total_people
from buildingexits.limits import NOT_FOUND


def list_areas(building):
    answer = [len(building.areas)]
    for area in building.areas:
        answer.extend([area.people, area.is_exit])
    return answer


def list_passages(building):
    answer = [len(building.passages)]
    for passage in building.passages:
        answer.extend([passage.source, passage.target, passage.capacity, passage.travel_time])
    return answer


def outgoing_passages(building, area):
    if not has_area(building, area):
        return [NOT_FOUND]
    found = [number for number, passage in enumerate(building.passages) if passage.source == area]
    return [len(found)] + found


def get_state(building):
    return [len(building.areas), len(building.passages), total_people(building)]
