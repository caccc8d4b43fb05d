"""Plans, gone through step by step (operations 15 and 16)."""

from buildingexits.building import has_passage
from buildingexits.limits import LAST_MINUTE, MAX_STEPS, NOT_POSSIBLE, OUT_OF_RANGE

NUMBERS_OF_A_STEP = 3


class Step:
    """People who enter a passage in a minute."""

    def __init__(self, passage, minute, people):
        self.passage = passage
        self.minute = minute
        self.people = people


def is_plan(numbers):
    return len(numbers) % NUMBERS_OF_A_STEP == 0 and len(numbers) <= MAX_STEPS * NUMBERS_OF_A_STEP


def plan_of(numbers):
    return [
        Step(numbers[start], numbers[start + 1], numbers[start + 2])
        for start in range(0, len(numbers), NUMBERS_OF_A_STEP)
    ]


def arrived(building, plan, area, minute):
    """How many have come into the area through passages, up to the minute."""
    people = 0
    for step in plan:
        passage = building.passages[step.passage]
        if passage.target == area and step.minute + passage.travel_time <= minute:
            people += step.people
    return people


def leaving(building, plan, area, minute):
    """How many leave the area in the minute."""
    return sum([
        step.people for step in plan
        if step.minute == minute and building.passages[step.passage].source == area
    ])


def left(building, plan, area, minute):
    """How many have left the area ahead of the minute."""
    return sum([leaving(building, plan, area, earlier) for earlier in range(minute)])


def present(building, plan, area, minute):
    at_first = building.areas[area].people
    return at_first + arrived(building, plan, area, minute) - left(building, plan, area, minute)


def has_real_steps(building, plan):
    return all([has_passage(building, step.passage) and step.minute <= LAST_MINUTE for step in plan])


def entering(plan, passage, minute):
    """How many enter the passage in the minute."""
    return sum([step.people for step in plan if step.passage == passage and step.minute == minute])


def fits_the_passages(building, plan, minute):
    return all([
        entering(plan, number, minute) <= passage.capacity
        for number, passage in enumerate(building.passages)
    ])


def fits_the_areas(building, plan, minute):
    return all([
        leaving(building, plan, area, minute) <= present(building, plan, area, minute)
        for area in range(len(building.areas))
    ])


def is_valid(building, plan):
    # The other conditions look the passages up, so they can't be asked of steps that aren't real.
    if not has_real_steps(building, plan):
        return False
    for minute in range(LAST_MINUTE + 1):
        if not fits_the_passages(building, plan, minute) or not fits_the_areas(building, plan, minute):
            return False
    return True


def evacuated(building, plan, minute):
    return sum([
        present(building, plan, number, minute)
        for number, area in enumerate(building.areas) if area.is_exit == 1
    ])


def is_valid_plan(building, numbers):
    if not is_plan(numbers):
        return [OUT_OF_RANGE]
    if is_valid(building, plan_of(numbers)):
        return [1]
    return [0]


def evacuated_by_plan(building, minute, numbers):
    if minute > LAST_MINUTE or not is_plan(numbers):
        return [OUT_OF_RANGE]
    plan = plan_of(numbers)
    if not is_valid(building, plan):
        return [NOT_POSSIBLE]
    return [evacuated(building, plan, minute)]
