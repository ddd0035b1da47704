"""Walks from one run that fits to another in small steps."""

from surelyseen.boxes import fits_box
from surelyseen.errors import NotFitting, TooFar
from surelyseen.nets import links_of
from surelyseen.world import is_cell, sum_values
from surelyseen.worldnet import net_of

FARTHEST = 200


def walk(box, first, second):
    """A list of runs that fit from the first to the second, in which no sum changes by more than 1 at once.

    The difference of the two is taken apart into rings of the world's net that go with it: along each of
    them every sum on it comes nearer by 1, and none goes beyond its value in the second run.
    """
    if not fits_box(box, first):
        raise NotFitting(1)
    if not fits_box(box, second):
        raise NotFitting(2)
    distance = sum([abs(a - b) for row, other in zip(first, second) for a, b in zip(row, other)])
    if distance > FARTHEST:
        raise TooFar(distance)
    world = box.world
    net = net_of(world)
    links = links_of(net)
    still = [b - a for a, b in zip(sum_values(world, first), sum_values(world, second))]
    runs = [[list(counts) for counts in first]]
    while any(still):
        ring = _ring_along(net, links, still)
        for arc, direction in ring:
            still[arc] -= direction
        runs.append(_stepped(world, runs[-1], ring))
    return runs


def _ring_along(net, links, still):
    """A ring of pairs (arc, direction) on which every arc's value still has to change in this direction."""
    start = [arc for arc, change in enumerate(still) if change != 0][0]
    node = net.arcs[start][0]
    way = []
    places = {}
    while node not in places:
        places[node] = len(way)
        arc, direction, node = _step_along(links[node], still)
        way.append((arc, direction))
    return way[places[node]:]


def _step_along(links, still):
    """The first of a node's links that goes with what still has to change; balance leaves one open."""
    return [link for link in links if link[1] * still[link[0]] > 0][0]


def _stepped(world, run, ring):
    """The run with the cells on the ring changed by one."""
    found = [list(counts) for counts in run]
    for arc, direction in ring:
        who, _, tick = world.order[arc]
        if is_cell(world, world.order[arc]):
            found[world.members[who][0]][tick] += direction
    return found
