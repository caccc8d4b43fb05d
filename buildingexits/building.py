"""What a planner knows: the areas of a building and its passages."""


class Area:
    """A place with people; it is replaced as a whole, never changed."""

    def __init__(self, people, is_exit):
        self.people = people
        self.is_exit = is_exit


class Passage:
    """A way from one area to another; it is replaced as a whole, never changed."""

    def __init__(self, source, target, capacity, travel_time):
        self.source = source
        self.target = target
        self.capacity = capacity
        self.travel_time = travel_time


class Building:
    """The areas and the passages, each numbered by its place in the list."""

    def __init__(self):
        self.areas = []
        self.passages = []


def has_area(building, area):
    return area < len(building.areas)


def has_passage(building, passage):
    return passage < len(building.passages)


def total_people(building):
    return sum([area.people for area in building.areas])
