"""Rings and cuts: whether the value of an arc can rise, and what shows it."""

from surelyseen.errors import BadNet
from surelyseen.nets import crossing, ends_of, links_of


def ring_or_cut(net, rises, falls, asked):
    """("ring", ring) or ("cut", nodes) for the asked arc: there is always one, never both."""
    _check_painting(net, rises, falls, asked)
    tail, head = net.arcs[asked]
    came = _steps_from(net, rises, falls, asked)
    if tail not in came:
        return ("cut", sorted(came))
    way = []
    node = tail
    while node != head:
        arc, direction, node = came[node]
        way.append((arc, direction))
    return ("ring", [(asked, 1)] + way[::-1])


def is_ring(net, rises, falls, asked, ring):
    """Whether a list of pairs (arc, direction) is a ring for the asked arc."""
    _check_painting(net, rises, falls, asked)
    if not ring or ring[0] != (asked, 1):
        return False
    tail, node = net.arcs[asked]
    reached = {node: True}
    for arc, direction in ring[1:]:
        if arc == asked or not _may_go(net, rises, falls, arc, direction):
            return False
        start, end = ends_of(net, arc, direction)
        if start != node or end in reached:
            return False
        reached[end] = True
        node = end
    return node == tail


def is_cut(net, rises, falls, asked, nodes):
    """Whether a list of nodes is a cut for the asked arc."""
    _check_painting(net, rises, falls, asked)
    for place, node in enumerate(nodes):
        if not 0 <= node < net.nodes or (place > 0 and node <= nodes[place - 1]):
            return False
    tail, head = net.arcs[asked]
    if head not in nodes or tail in nodes:
        return False
    for arc, direction in crossing(net, nodes):
        if arc != asked and _may_go(net, rises, falls, arc, direction):
            return False
    return True


def _check_painting(net, rises, falls, asked):
    if len(rises) != len(net.arcs) or len(falls) != len(net.arcs):
        raise BadNet("a painting has one entry for each arc")
    if not 0 <= asked < len(net.arcs):
        raise BadNet("the asked arc does not exist")


def _may_go(net, rises, falls, arc, direction):
    """Whether there is such an arc and it may rise (direction 1) or fall (direction -1)."""
    if not 0 <= arc < len(net.arcs):
        return False
    return (direction == 1 and rises[arc]) or (direction == -1 and falls[arc])


def _steps_from(net, rises, falls, asked):
    """How each node that can be reached from the asked arc's head was reached: (arc, direction, node)."""
    links = links_of(net)
    head = net.arcs[asked][1]
    came = {head: None}
    queue = [head]
    place = 0
    while place < len(queue):
        node = queue[place]
        place += 1
        for arc, direction, end in links[node]:
            if arc != asked and end not in came and _may_go(net, rises, falls, arc, direction):
                came[end] = (arc, direction, node)
                queue.append(end)
    return came
