"""The document's terms word by word, to compare the program with: all cuts, and all plans.

Areas are rows (people, is_exit), passages rows (source, target, capacity, travel_time),
plans lists of rows (passage, minute, people).
"""

from itertools import product

LAST_MINUTE = 5


def present(areas, passages, plan, area, minute):
    people = areas[area][0]
    for passage, entered, count in plan:
        source, target, _, travel_time = passages[passage]
        if target == area and entered + travel_time <= minute:
            people += count
        if source == area and entered < minute:
            people -= count
    return people


def is_valid(areas, passages, plan):
    if any(number >= len(passages) or minute > LAST_MINUTE for number, minute, _ in plan):
        return False
    for minute in range(LAST_MINUTE + 1):
        steps = [step for step in plan if step[1] == minute]
        for number, passage in enumerate(passages):
            if sum(step[2] for step in steps if step[0] == number) > passage[2]:
                return False
        for area in range(len(areas)):
            leaving = sum(step[2] for step in steps if passages[step[0]][0] == area)
            if leaving > present(areas, passages, plan, area, minute):
                return False
    return True


def evacuated(areas, passages, plan, minute):
    exits = [number for number, area in enumerate(areas) if area[1] == 1]
    return sum(present(areas, passages, plan, area, minute) for area in exits)


def all_plans(passages, minute):
    """Every plan of steps ahead of the minute (later ones do not count by then)."""
    slots = [(number, moment) for number in range(len(passages)) for moment in range(minute)]
    choices = [range(passages[number][2] + 1) for number, _ in slots]
    for counts in product(*choices):
        yield [(*slot, count) for slot, count in zip(slots, counts) if count > 0]


def most_by_plans(areas, passages, minute):
    return max(
        evacuated(areas, passages, plan, minute)
        for plan in all_plans(passages, minute)
        if is_valid(areas, passages, plan)
    )


def cut_capacity(areas, passages, minute, cut):
    total = sum(area[0] for area, crossing in zip(areas, cut) if crossing > 0)
    for source, target, capacity, travel_time in passages:
        first = cut[source]
        behind = min(minute - travel_time + 1, cut[target] - travel_time)
        total += capacity * max(0, behind - first)
    return total


def all_cuts(areas, minute):
    return product(*[[minute + 1] if area[1] == 1 else range(minute + 2) for area in areas])


def least_by_cuts(areas, passages, minute):
    return min(cut_capacity(areas, passages, minute, cut) for cut in all_cuts(areas, minute))


def first_of_the_least_cuts(areas, passages, minute):
    """The smallest capacity, and the lexicographically smallest cut that has it."""
    return min((cut_capacity(areas, passages, minute, cut), cut) for cut in all_cuts(areas, minute))


def can_all_be_out(areas, passages, minute):
    return least_by_cuts(areas, passages, minute) == sum(area[0] for area in areas)


def earliest(areas, passages):
    for minute in range(LAST_MINUTE + 1):
        if can_all_be_out(areas, passages, minute):
            return minute
    return -33


def room_over_time(areas, passages, minute):
    """How many can go from one place to another; a place is an area at a moment."""
    room = {}
    for number, (people, is_exit) in enumerate(areas):
        room["start", (number, 0)] = people
        if is_exit == 1:
            room[(number, minute), "end"] = 1000
        for moment in range(minute):
            room[(number, moment), (number, moment + 1)] = 1000
    for source, target, capacity, travel_time in passages:
        for moment in range(minute + 1 - travel_time):
            way = (source, moment), (target, moment + travel_time)
            room[way] = room.get(way, 0) + capacity
    return room


def way_out(room, place, tried):
    """Some way for one more person to the end, as a list of pairs, or None."""
    if place == "end":
        return []
    tried.add(place)
    for start, end in list(room):
        if start == place and end not in tried and room[start, end] > 0:
            further = way_out(room, end, tried)
            if further is not None:
                return [(start, end), *further]
    return None


def best_plan(areas, passages, minute):
    """A plan that evacuates as many as can be by the minute."""
    free = room_over_time(areas, passages, minute)
    room = dict(free)
    way = way_out(room, "start", set())
    while way is not None:
        for start, end in way:
            room[start, end] -= 1
            room[end, start] = room.get((end, start), 0) + 1
        way = way_out(room, "start", set())
    used = {way: free[way] - room[way] for way in free}
    plan = []
    for number, (source, target, capacity, travel_time) in enumerate(passages):
        for moment in range(minute + 1 - travel_time):
            way = (source, moment), (target, moment + travel_time)
            people = min(capacity, used[way])
            used[way] -= people
            if people > 0:
                plan.append((number, moment, people))
    return plan
