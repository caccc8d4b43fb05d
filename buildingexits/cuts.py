"""Cuts over time (operations 13 and 14).

A cut of a building splits the nodes of its network over time: an area counts as crossed
from its crossing minute on. What leads from a crossed node to one that isn't yet crossed
is what the cut's capacity counts, so the smallest cuts are those of a largest flow.
"""

from buildingexits.evacuation import SINK, SOURCE, network_over_time, place
from buildingexits.limits import LAST_MINUTE, OUT_OF_RANGE
from buildingexits.network import BACKWARD, arcs_of_arrival, fill


def crossing_minute(uncrossed, area, minute):
    # People can always wait, so an area's uncrossed nodes are the first ones of its minutes.
    return len([moment for moment in range(minute + 1) if place(area, moment, minute) in uncrossed])


def min_cut(building, minute):
    if minute > LAST_MINUTE:
        return [OUT_OF_RANGE]
    network = network_over_time(building, minute)
    capacity = fill(network, SOURCE, SINK)
    # Whatever can still reach the sink is uncrossed in every smallest cut. The cut with nothing
    # else uncrossed has the smallest minute in each area, and so is the first of them all.
    uncrossed = arcs_of_arrival(network, SINK, BACKWARD)
    cut = [crossing_minute(uncrossed, area, minute) for area in range(len(building.areas))]
    return [capacity] + cut


def is_crossing_minute(area, crossing, minute):
    if area.is_exit == 1:
        return crossing == minute + 1
    return crossing <= minute + 1


def is_cut(building, minute, cut):
    if len(cut) != len(building.areas):
        return False
    return all([is_crossing_minute(area, crossing, minute) for area, crossing in zip(building.areas, cut)])


def counted_minutes(passage, minute, cut):
    """How many minutes the capacity of the passage counts for."""
    return len([
        moment for moment in range(cut[passage.source], minute + 1 - passage.travel_time)
        if moment + passage.travel_time < cut[passage.target]
    ])


def capacity_of_cut(building, minute, cut):
    people = sum([area.people for area, crossing in zip(building.areas, cut) if crossing > 0])
    passing = sum([passage.capacity * counted_minutes(passage, minute, cut) for passage in building.passages])
    return people + passing


def cut_capacity(building, minute, cut):
    if minute > LAST_MINUTE or not is_cut(building, minute, cut):
        return [OUT_OF_RANGE]
    return [capacity_of_cut(building, minute, cut)]
