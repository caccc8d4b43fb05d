"""How many people can be evacuated by a minute (operations 10 and 11).

A building and a minute t make a network with one node for each area and each minute
from 0 to t. A flow in it is a plan, as far as the plan matters by minute t: people enter
at minute 0, wait from one minute to the next, walk through passages that they leave
by minute t, and are counted where they are in an exit at minute t.
"""

from buildingexits.building import total_people
from buildingexits.limits import LAST_MINUTE, OUT_OF_RANGE
from buildingexits.network import Network, add_arc, fill

SOURCE = 0
SINK = 1
FIRST_PLACE = 2


def place(area, moment, minute):
    """The node of an area at a moment from 0 to the minute."""
    return FIRST_PLACE + area * (minute + 1) + moment


def add_people(network, building, minute):
    for number, area in enumerate(building.areas):
        add_arc(network, SOURCE, place(number, 0, minute), area.people)


def add_waiting(network, building, minute):
    # More room than there are people: waiting must never be what limits the flow.
    unlimited = total_people(building) + 1
    for number in range(len(building.areas)):
        for moment in range(minute):
            add_arc(network, place(number, moment, minute), place(number, moment + 1, minute), unlimited)


def add_passages(network, building, minute):
    for passage in building.passages:
        for moment in range(minute + 1 - passage.travel_time):
            entered = place(passage.source, moment, minute)
            left = place(passage.target, moment + passage.travel_time, minute)
            add_arc(network, entered, left, passage.capacity)


def add_exits(network, building, minute):
    unlimited = total_people(building) + 1
    for number, area in enumerate(building.areas):
        if area.is_exit == 1:
            add_arc(network, place(number, minute, minute), SINK, unlimited)


def network_over_time(building, minute):
    network = Network(place(len(building.areas), 0, minute))
    add_people(network, building, minute)
    add_waiting(network, building, minute)
    add_passages(network, building, minute)
    add_exits(network, building, minute)
    return network


def most_evacuated(building, minute):
    return fill(network_over_time(building, minute), SOURCE, SINK)


def max_evacuated(building, minute):
    if minute > LAST_MINUTE:
        return [OUT_OF_RANGE]
    return [most_evacuated(building, minute)]


def min_remaining(building, minute):
    if minute > LAST_MINUTE:
        return [OUT_OF_RANGE]
    return [total_people(building) - most_evacuated(building, minute)]
