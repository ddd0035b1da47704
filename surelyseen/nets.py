"""Nets: nodes, arcs, and values on the arcs."""

from surelyseen.errors import BadNet


class Net:
    """A net with nodes numbered from 0 and arcs (tail, head) numbered from 0."""

    def __init__(self, nodes, arcs):
        self.nodes = nodes
        self.arcs = tuple([(tail, head) for tail, head in arcs])
        if nodes < 1:
            raise BadNet("a net has at least one node")
        for tail, head in self.arcs:
            if tail == head or not 0 <= tail < nodes or not 0 <= head < nodes:
                raise BadNet("an arc joins two different nodes of the net")


def balanced(net, values):
    """Whether at every node as much enters as leaves."""
    return not any(surplus(net, values))


def moved(net, values, ring, amount):
    """The values after the ring was moved by an amount."""
    found = list(values)
    for arc, direction in ring:
        found[arc] += direction * amount
    return found


def surplus(net, values):
    """For each node what enters it less what leaves it."""
    found = [0] * net.nodes
    for (tail, head), value in zip(net.arcs, values):
        found[tail] -= value
        found[head] += value
    return found


def ends_of(net, arc, direction):
    """Where a step along an arc starts and ends."""
    tail, head = net.arcs[arc]
    return (tail, head) if direction == 1 else (head, tail)


def links_of(net):
    """For each node the triples (arc, direction, end): how a step along an arc leaves it."""
    found = [[] for _ in range(net.nodes)]
    for arc, (tail, head) in enumerate(net.arcs):
        found[tail].append((arc, 1, head))
        found[head].append((arc, -1, tail))
    return found


def crossing(net, nodes):
    """For a set of nodes the pairs (arc, 1) of what leaves it and (arc, -1) of what enters it."""
    within = [False] * net.nodes
    for node in nodes:
        within[node] = True
    found = []
    for arc, (tail, head) in enumerate(net.arcs):
        if within[tail] and not within[head]:
            found.append((arc, 1))
        if within[head] and not within[tail]:
            found.append((arc, -1))
    return found
