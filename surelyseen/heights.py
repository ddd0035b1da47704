"""Heights that fit facts, or a low ring that shows that none do."""

from surelyseen.errors import BadNet, NoHeights
from surelyseen.steps import all_steps, step_parts, way_cost


def heights_or_ring(points, facts):
    """("heights", heights) with heights that fit, or ("ring", steps) with a low ring."""
    _check(points, facts, [])
    costs, last = _cheapest(points, facts, list(range(points)))
    ring = _ring_behind(facts, last)
    if ring:
        return ("ring", ring)
    return ("heights", [cost - costs[0] for cost in costs])


def difference(points, facts, a, b):
    """The least and the greatest height of b minus that of a, None where there is no bound."""
    _check_fitting(points, facts, [a, b])
    up = _way(points, facts, a, b)
    down = _way(points, facts, b, a)
    least = None if down is None else -way_cost(facts, down)
    greatest = None if up is None else way_cost(facts, up)
    return (least, greatest)


def cheapest_way(points, facts, a, b):
    """A way from a to b with the least cost, or None if there is no way."""
    _check_fitting(points, facts, [a, b])
    return _way(points, facts, a, b)


def cheapest_costs(points, facts, a):
    """For each point the greatest height of it minus that of a, or None where there is no bound."""
    _check_fitting(points, facts, [a])
    return _cheapest(points, facts, [a])[0]


def _way(points, facts, a, b):
    """A way from a to b with the least cost, or None, over facts that can be met."""
    costs, last = _cheapest(points, facts, [a])
    if costs[b] is None:
        return None
    way = []
    point = b
    while point != a:
        way.append(last[point])
        point = step_parts(facts, last[point])[0]
    return way[::-1]


def _check_fitting(points, facts, asked):
    """Raise BadNet for what does not exist, and then NoHeights if no heights fit."""
    _check(points, facts, asked)
    word, found = heights_or_ring(points, facts)
    if word == "ring":
        raise NoHeights(found)


def _check(points, facts, asked):
    for a, b, _, _ in facts:
        if a == b or not 0 <= a < points or not 0 <= b < points:
            raise BadNet("a fact is about two different points")
    for point in asked:
        if not 0 <= point < points:
            raise BadNet("an asked point does not exist")


def _cheapest(points, facts, starts):
    """For each point the least cost from any start, or None, and the last step of such a way, or None.

    If there is a low ring that can be reached, the costs mean nothing, but the last steps contain a ring.
    """
    costs = [None] * points
    last = [None] * points
    for start in starts:
        costs[start] = 0
    steps = all_steps(facts)
    for _ in range(points):
        changed = False
        for start, end, cost, step in steps:
            if costs[start] is not None and (costs[end] is None or costs[start] + cost < costs[end]):
                costs[end] = costs[start] + cost
                last[end] = step
                changed = True
        if not changed:
            break
    return costs, last


def _ring_behind(facts, last):
    """The ring that the last steps contain, or the empty list."""
    checked = [False] * len(last)
    for first in range(len(last)):
        trail = []
        point = first
        while last[point] is not None and not checked[point]:
            checked[point] = True
            trail.append(point)
            point = step_parts(facts, last[point])[0]
        if point in trail:
            return _around(facts, last, point)
    return []


def _around(facts, last, start):
    """The ring of last steps through a point."""
    ring = [last[start]]
    point = step_parts(facts, last[start])[0]
    while point != start:
        ring.append(last[point])
        point = step_parts(facts, last[point])[0]
    return ring[::-1]
