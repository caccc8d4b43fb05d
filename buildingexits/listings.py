"""The operations that list what a building has (8 and 9)."""


def list_areas(building):
    answer = [len(building.areas)]
    for area in building.areas:
        answer.extend([area.people, area.is_exit])
    return answer


def list_passages(building):
    answer = [len(building.passages)]
    for passage in building.passages:
        answer.extend([passage.source, passage.target, passage.capacity, passage.travel_time])
    return answer
