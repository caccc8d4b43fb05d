"""The interface: a list of calls in, the list of their answers out."""

from buildingexits.building import Building
from buildingexits.changes import add_area, add_passage, remove_passage, reverse_passages
from buildingexits.changes import set_capacity, set_exit, set_people
from buildingexits.cuts import cut_capacity, min_cut
from buildingexits.earliest import critical_passages, earliest_evacuation
from buildingexits.earliest import earliest_if_capacity, earliest_if_people, max_people
from buildingexits.evacuation import max_evacuated, min_remaining
from buildingexits.limits import NO_PLANNER
from buildingexits.listings import get_state, list_areas, list_passages, outgoing_passages
from buildingexits.plans import evacuated_by_plan, is_valid_plan

CREATE = 0
LAST_CHANGE = 7

# How many whole numbers stand behind the number of each operation, 0 to 22 ...
ARGUMENT_COUNTS = (0, 2, 2, 2, 4, 1, 2, 0, 0, 0, 1, 1, 0, 1, 1, 0, 1, 2, 2, 2, 0, 1, 0)
# ... and which operations have a list behind these, with its length before it.
OPERATIONS_WITH_LIST = (14, 15, 16)


def end_of_call(calls, start):
    """Where the call behind the one at `start` begins."""
    operation = calls[start]
    end = start + 1 + ARGUMENT_COUNTS[operation]
    if operation in OPERATIONS_WITH_LIST:
        end += 1 + calls[end]
    return end


def change(building, call):
    operation = call[0]
    if operation == 1:
        return add_area(building, call[1], call[2])
    if operation == 2:
        return set_people(building, call[1], call[2])
    if operation == 3:
        return set_exit(building, call[1], call[2])
    if operation == 4:
        return add_passage(building, call[1], call[2], call[3], call[4])
    if operation == 5:
        return remove_passage(building, call[1])
    if operation == 6:
        return set_capacity(building, call[1], call[2])
    return reverse_passages(building)


def list_of(call):
    """The list that a call ends with; its length stands before it."""
    return call[ARGUMENT_COUNTS[call[0]] + 2:]


def look(building, call):
    operation = call[0]
    if operation == 8:
        return list_areas(building)
    if operation == 9:
        return list_passages(building)
    if operation == 10:
        return max_evacuated(building, call[1])
    if operation == 11:
        return min_remaining(building, call[1])
    if operation == 12:
        return earliest_evacuation(building)
    if operation == 13:
        return min_cut(building, call[1])
    if operation == 14:
        return cut_capacity(building, call[1], list_of(call))
    if operation == 15:
        return is_valid_plan(building, list_of(call))
    if operation == 16:
        return evacuated_by_plan(building, call[1], list_of(call))
    if operation == 17:
        return earliest_if_capacity(building, call[1], call[2])
    if operation == 18:
        return earliest_if_people(building, call[1], call[2])
    if operation == 19:
        return max_people(building, call[1], call[2])
    if operation == 20:
        return critical_passages(building)
    if operation == 21:
        return outgoing_passages(building, call[1])
    return get_state(building)


def answer_of(building, call):
    if building is None:
        return [NO_PLANNER]
    if call[0] <= LAST_CHANGE:
        return change(building, call)
    return look(building, call)


def answers(calls):
    """For each call, in order, how many numbers are answered, then these."""
    building = None
    answered = []
    start = 0
    while start < len(calls):
        end = end_of_call(calls, start)
        if calls[start] == CREATE:
            building = Building()
            answer = [0]
        else:
            answer = answer_of(building, calls[start:end])
        answered.append(len(answer))
        answered.extend(answer)
        start = end
    return answered
