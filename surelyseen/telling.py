"""What is told of a run of which everything is forgotten but the values of some sums."""

from surelyseen.balances import cell_weights
from surelyseen.joins import bridges
from surelyseen.nets import crossing
from surelyseen.rings import ring_or_cut
from surelyseen.world import check_sum, is_cell, is_run, sum_value
from surelyseen.worldnet import net_of


def told_by(world, kept, asked):
    """("told", balance) with the asked sum as a sum of kept ones, or ("lost", run, other) that differ in it."""
    check_sums(world, kept)
    check_sum(world, asked)
    free = free_sums(world, kept)
    place = world.places[asked]
    if not free[place]:
        return ("told", [(asked, 1)])
    net = net_of(world)
    word, found = ring_or_cut(net, free, free, place)
    if word == "cut":
        return ("told", [(world.order[arc], sign) for arc, sign in crossing(net, found) if arc != place])
    changes = {world.order[arc]: direction for arc, direction in found}
    return ("lost", _raised_lows(world, changes, -1), _raised_lows(world, changes, 1))


def shows_told(world, kept, asked, balance):
    """Whether a balance shows that the asked sum is told by the kept ones."""
    check_sums(world, kept)
    check_sum(world, asked)
    weights = cell_weights(world, balance)
    free = free_sums(world, kept)
    named = [other for other, _ in balance]
    if len(set(named)) != len(named) or weights != cell_weights(world, [(asked, 1)]):
        return False
    return all([sign in (1, -1) and not free[world.places[other]] for other, sign in balance])


def shows_lost(world, kept, asked, run, other):
    """Whether two tables show that the asked sum is not told by the kept ones."""
    check_sums(world, kept)
    check_sum(world, asked)
    if not is_run(world, run) or not is_run(world, other):
        return False
    for counts, other_counts in zip(run, other):
        if any([abs(count - other_count) > 1 for count, other_count in zip(counts, other_counts)]):
            return False
    if sum_value(world, run, asked) == sum_value(world, other, asked):
        return False
    return all([sum_value(world, run, one) == sum_value(world, other, one) for one in kept])


def told_sums(world, kept):
    """All sums that are told by the kept ones."""
    check_sums(world, kept)
    told = told_places(world, kept)
    return [asked for asked, mark in zip(world.order, told) if mark]


def told_places(world, kept):
    """For each sum, in the order of the sums, whether it is told by the kept ones.

    What is neither kept nor fixed can change along a ring of such sums, and only so.
    """
    free = free_sums(world, kept)
    bridging = bridges(net_of(world), free)
    return [alone or not loose for alone, loose in zip(bridging, free)]


def free_sums(world, kept):
    """For each sum, in the order of the sums, whether it is neither kept nor a fixed cell."""
    known = {asked: True for asked in kept}
    return [asked not in known and not is_fixed(world, asked) for asked in world.order]


def is_fixed(world, asked):
    """Whether a sum that exists is a fixed cell."""
    _, low, high = world.ranges[world.places[asked]]
    return low == high and is_cell(world, asked)


def check_sums(world, listed):
    """Raise NoSuchSum for the first listed sum that does not exist."""
    for asked in listed:
        check_sum(world, asked)


def _raised_lows(world, changes, direction):
    """The run in which each cell has its low, one more if it changes in this direction."""
    found = []
    for name, low, _ in world.streams:
        signs = [changes.get((name, 0, tick)) for tick in range(world.ticks)]
        found.append([low + 1 if sign == direction else low for sign in signs])
    return found
