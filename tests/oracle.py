"""The document's terms word by word, to compare the program with: all cuts, and all plans."""

from itertools import product

LAST_MINUTE = 5


def present(areas, passages, plan, area, minute):
    people = areas[area][0]
    for passage, entered, count in plan:
        source, target, _, travel_time = passages[passage]
        if target == area and entered + travel_time <= minute:
            people += count
        if source == area and entered < minute:
            people -= count
    return people


def is_valid(areas, passages, plan):
    for minute in range(LAST_MINUTE + 1):
        steps = [step for step in plan if step[1] == minute]
        for number, passage in enumerate(passages):
            if sum(step[2] for step in steps if step[0] == number) > passage[2]:
                return False
        for area in range(len(areas)):
            leaving = sum(step[2] for step in steps if passages[step[0]][0] == area)
            if leaving > present(areas, passages, plan, area, minute):
                return False
    return True


def evacuated(areas, passages, plan, minute):
    exits = [number for number, area in enumerate(areas) if area[1] == 1]
    return sum(present(areas, passages, plan, area, minute) for area in exits)


def all_plans(passages, minute):
    """Every plan of steps ahead of the minute (later ones do not count by then)."""
    slots = [(number, moment) for number in range(len(passages)) for moment in range(minute)]
    choices = [range(passages[number][2] + 1) for number, _ in slots]
    for counts in product(*choices):
        yield [(*slot, count) for slot, count in zip(slots, counts) if count > 0]


def most_by_plans(areas, passages, minute):
    return max(
        evacuated(areas, passages, plan, minute)
        for plan in all_plans(passages, minute)
        if is_valid(areas, passages, plan)
    )


def cut_capacity(areas, passages, minute, cut):
    total = sum(area[0] for area, crossing in zip(areas, cut) if crossing > 0)
    for source, target, capacity, travel_time in passages:
        first = cut[source]
        behind = min(minute - travel_time + 1, cut[target] - travel_time)
        total += capacity * max(0, behind - first)
    return total


def all_cuts(areas, minute):
    return product(*[[minute + 1] if area[1] == 1 else range(minute + 2) for area in areas])


def least_by_cuts(areas, passages, minute):
    return min(cut_capacity(areas, passages, minute, cut) for cut in all_cuts(areas, minute))
