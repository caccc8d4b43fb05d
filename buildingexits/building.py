"""What a planner knows: the areas of a building and its passages."""


class Area:
    """A place with people; it is replaced as a whole, never changed."""

    def __init__(self, people, is_exit):
        self.people = people
        self.is_exit = is_exit


class Passage:
    """A way from one area to another; it is replaced as a whole, never changed."""

    def __init__(self, source, target, capacity, travel_time):
        self.source = source
        self.target = target
        self.capacity = capacity
        self.travel_time = travel_time


class Building:
    """The areas and the passages, each numbered by its place in the list."""

    def __init__(self):
        self.areas = []
        self.passages = []


def has_area(building, area):
    return area < len(building.areas)


def has_passage(building, passage):
    return passage < len(building.passages)


def total_people(building):
    return sum([area.people for area in building.areas])


def put_people(building, area, people):
    previous = building.areas[area]
    building.areas[area] = Area(people, previous.is_exit)


def put_capacity(building, passage, capacity):
    previous = building.passages[passage]
    building.passages[passage] = Passage(previous.source, previous.target, capacity, previous.travel_time)


def copy_of(building):
    # The areas and passages themselves may be shared, as they are never changed.
    copied = Building()
    copied.areas = list(building.areas)
    copied.passages = list(building.passages)
    return copied


def with_people(building, area, people):
    """Another building, which differs by the people in one area."""
    other = copy_of(building)
    put_people(other, area, people)
    return other


def with_capacity(building, passage, capacity):
    """Another building, which differs by the capacity of one passage."""
    other = copy_of(building)
    put_capacity(other, passage, capacity)
    return other
