"""Causes for the tests, reckoned by listing all runs and all lots."""

import itertools

from helpers import Listing
from surelyseen.causes import Causes

NAMES = list("abcdefgh")


def own_lag(leans, stream, upper):
    """The least total lag of a chain of leans, found by trying all chains without repeats; None if there is none."""
    if stream == upper:
        return 0
    found = []
    started = [([stream], 0)]
    while started:
        chain, total = started.pop()
        for above, below, lag in leans:
            if below == chain[-1] and above not in chain:
                if above == upper:
                    found.append(total + lag)
                started.append((chain + [above], total + lag))
    return min(found, default=None)


def own_reach(causes, name):
    _, stream, tick, length, _ = next(fault for fault in causes.faults if fault[0] == name)
    found = []
    for upper, _, _ in causes.world.streams:
        lag = own_lag(causes.leans, stream, upper)
        if lag is not None:
            found += [(upper, t) for t in range(causes.world.ticks) if tick + lag <= t < tick + lag + length]
    return found


def own_limit(causes, lot, stream, tick):
    """The most that the cell can have with the faults of a lot, as far as the stream's own high does not say less."""
    names = [one[0] for one in causes.world.streams]
    extras = [fault[4] for fault in causes.faults if fault[0] in lot and (stream, tick) in own_reach(causes, fault[0])]
    return causes.normal[names.index(stream)] + sum(extras)


class Blaming(Listing):
    """A small world with causes, and which lots fit a box."""

    def __init__(self, causes):
        super().__init__(causes.world)
        self.causes = causes
        names = [fault[0] for fault in causes.faults]
        self.lots = [list(lot) for size in range(len(names) + 1) for lot in itertools.combinations(names, size)]
        self.bounds = {
            tuple(lot): [[own_limit(causes, lot, stream[0], t) for t in range(causes.world.ticks)] for stream in causes.world.streams]
            for lot in self.lots
        }

    def fitting_lots(self, box):
        """All lots that fit, in the order of their lengths and places."""
        runs = [run for run, _ in self.fitting(box)]
        return [lot for lot in self.lots if any(self.within(run, lot) for run in runs)]

    def within(self, run, lot):
        return all(count <= most for counts, row in zip(run, self.bounds[tuple(lot)]) for count, most in zip(counts, row))


def least_ones(lots):
    """Those that contain no other."""
    return [lot for lot in lots if not any(set(other) < set(lot) for other in lots)]


def drawn_causes(draw, world, faults):
    names = [stream[0] for stream in world.streams]
    normal = [draw.randint(low, min(high, low + 1)) for _, low, high in world.streams]
    leans = []
    for _ in range(draw.randint(0, 3) if len(names) > 1 else 0):
        leans.append(tuple(draw.sample(names, 2)) + (draw.randint(0, 2),))
    return Causes(world, normal, leans=leans, faults=[
        (NAMES[k], draw.choice(names), draw.randrange(world.ticks), draw.randint(1, 2), draw.randint(1, 2)) for k in range(faults)
    ])
