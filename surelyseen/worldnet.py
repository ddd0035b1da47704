"""The net of a world: one arc for each sum, balanced exactly by the sums of tables."""

from surelyseen.nets import Net
from surelyseen.world import is_cell

WHOLE = 0


def net_of(world):
    """The net of a world, with its arcs in the order of the sums."""
    places = _nodes(world)
    arcs = [_arc(world, places, asked) for asked in world.order]
    return Net(len(places) + 1, arcs)


def _nodes(world):
    """The node of each sum that is no single cell; the node 0 is the whole."""
    found = {}
    for asked in world.order:
        if not is_cell(world, asked):
            found[asked] = WHOLE + 1 + len(found)
    return found


def _arc(world, places, asked):
    """First family: from the next larger sum; second family: to it; a cell: from the one to the other."""
    larger = _next_larger(world, asked)
    who, level, _ = asked
    if is_cell(world, asked):
        above = (who, 1, asked[2] // world.folds[0])
        return (places[above], places[larger])
    if who == "all" or level == 0:
        return (places[asked], places.get(larger, WHOLE))
    return (places.get(larger, WHOLE), places[asked])


def _next_larger(world, asked):
    """The smallest larger sum of the sum's family (for a cell, of the second family), or None for the whole."""
    who, level, index = asked
    top = len(world.folds)
    if who != "all" and level == 0:
        return (_group_around(world, who) or "all", 0, index)
    if level < top:
        times = world.sizes[level + 1] // world.sizes[level]
        return (who, level + 1, index // times)
    around = None if who == "all" else _group_around(world, who)
    return None if around is None else (around, top, 0)


def _group_around(world, who):
    """The smallest group with all streams of who and more, or None."""
    found = None
    inner = world.members[who]
    for group, _ in world.groups:
        outer = world.members[group]
        if len(outer) > len(inner) and len([k for k in inner if k in outer]) == len(inner):
            if found is None or len(outer) < len(world.members[found]):
                found = group
    return found
