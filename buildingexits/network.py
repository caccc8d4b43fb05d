"""Maximum flow through a network of nodes and arcs, by augmenting paths."""

FORWARD = 0
BACKWARD = 1


class Network:
    """Nodes numbered from 0, and arcs with the room that is left in each.

    Arcs come in pairs: behind each arc of even number stands the arc back, whose
    room is the flow that may still be taken back. So `arc ^ 1` is the other of a pair.
    """

    def __init__(self, node_count):
        self.arcs_from = [[] for node in range(node_count)]
        self.end_of = []
        self.room = []


def add_half(network, start, end, room):
    network.arcs_from[start].append(len(network.end_of))
    network.end_of.append(end)
    network.room.append(room)


def add_arc(network, start, end, room):
    add_half(network, start, end, room)
    add_half(network, end, start, 0)


def arcs_of_arrival(network, origin, direction):
    """For each node that is found from the origin, the arc by which it was found first.

    FORWARD finds the nodes in reach of the origin through arcs with room, BACKWARD those
    that have the origin in reach.
    """
    arrival = {origin: None}
    found = [origin]
    walked = 0
    while walked < len(found):
        for arc in network.arcs_from[found[walked]]:
            end = network.end_of[arc]
            # Backward, what counts is the room from `end` to here: that of the pair's other arc.
            if network.room[arc ^ direction] > 0 and end not in arrival:
                arrival[end] = arc
                found.append(end)
        walked += 1
    return arrival


def path_back(network, arrival, sink):
    """The arcs of the path by which the sink was reached, from the last to the first."""
    path = []
    arc = arrival[sink]
    while arc is not None:
        path.append(arc)
        arc = arrival[network.end_of[arc ^ 1]]
    return path


def push(network, path):
    """Sends as much as fits along the path and tells how much that was."""
    amount = min([network.room[arc] for arc in path])
    for arc in path:
        network.room[arc] -= amount
        network.room[arc ^ 1] += amount
    return amount


def fill(network, source, sink):
    """Sends as much as possible from the source to the sink and tells how much that was."""
    flow = 0
    arrival = arcs_of_arrival(network, source, FORWARD)
    while sink in arrival:
        flow += push(network, path_back(network, arrival, sink))
        arrival = arcs_of_arrival(network, source, FORWARD)
    return flow
