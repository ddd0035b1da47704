"""Causes: faults that raise the counts that can be, and how what goes wrong spreads."""

from surelyseen.boxes import Box, narrowed_by
from surelyseen.errors import BadCauses, BadName, OtherWorld
from surelyseen.flows import fit
from surelyseen.names import is_name

MOST_LAG = 16
MOST_LENGTH = 16
MOST_EXTRA = 1000000


class Causes:
    """Causes; beside what they were made from they hold what each fault reaches.

    reached: for each fault's name a dict with the extra for each cell that it reaches, in the order of the cells.
    """

    def __init__(self, world, normal, *, leans=(), faults=()):
        self.world = world
        self.normal = tuple(normal)
        self.leans = tuple([(upper, lower, lag) for upper, lower, lag in leans])
        self.faults = tuple([tuple(fault) for fault in faults])
        self.reached = {}
        _check_normal(world, self.normal)
        for lean in self.leans:
            _check_lean(world, lean)
        for fault in self.faults:
            _check_fault(world, self.reached, fault)
            self.reached[fault[0]] = _reached(world, self.leans, fault)


def reach(causes, name):
    """The cells that a fault reaches."""
    check_lot(causes, [name])
    return list(causes.reached[name])


def limits(causes, lot):
    """The box in which each cell has at most its normal number and the extras of the faults that reach it."""
    check_lot(causes, lot)
    demands = []
    for (name, _, _), normal in zip(causes.world.streams, causes.normal):
        for tick in range(causes.world.ticks):
            extras = [causes.reached[fault].get((name, tick), 0) for fault in lot]
            demands.append(((name, 0, tick), None, normal + sum(extras)))
    return narrowed_by(Box(causes.world), demands)


def fit_lot(box, causes, lot):
    """What `fit` returns for the box and the limits of the lot together."""
    check_world(box, causes)
    return fit(box & limits(causes, lot))


def check_world(box, causes):
    """Raise OtherWorld unless the box belongs to the world of the causes."""
    if box.world != causes.world:
        raise OtherWorld("the box belongs to another world than the causes")


def check_lot(causes, lot):
    """Raise BadName for the first name that is no fault or is repeated."""
    for place, name in enumerate(lot):
        if name not in causes.reached or name in lot[:place]:
            raise BadName(name)


def _check_normal(world, normal):
    if len(normal) != len(world.streams):
        raise BadCauses("there is one normal number for each stream")
    for (_, low, high), number in zip(world.streams, normal):
        if not low <= number <= high:
            raise BadCauses("a normal number is from the stream's low to its high")


def _check_lean(world, lean):
    upper, lower, lag = lean
    names = [name for name, _, _ in world.streams]
    if upper not in names or lower not in names or upper == lower:
        raise BadCauses("a stream leans on another one")
    if not 0 <= lag <= MOST_LAG:
        raise BadCauses("a lag is from 0 to 16")


def _check_fault(world, known, fault):
    name, stream, tick, length, extra = fault
    if not is_name(name) or name in known:
        raise BadName(name)
    if stream not in [other for other, _, _ in world.streams] or not 0 <= tick < world.ticks:
        raise BadCauses("a fault is at a stream and begins at one of the ticks")
    if not 1 <= length <= MOST_LENGTH or not 1 <= extra <= MOST_EXTRA:
        raise BadCauses("a fault lasts 1 to 16 ticks, with 1 to 1000000 extra events")


def _reached(world, leans, fault):
    """The fault's extra for each cell that it reaches."""
    _, stream, tick, length, extra = fault
    lags = _lags_from(world, leans, stream)
    found = {}
    for name, _, _ in world.streams:
        if name in lags:
            start = tick + lags[name]
            for later in range(start, min(start + length, world.ticks)):
                found[(name, later)] = extra
    return found


def _lags_from(world, leans, stream):
    """The least total lag of a chain of leans from a stream up to each stream that has such a chain."""
    lags = {stream: 0}
    for _ in world.streams:
        for upper, lower, lag in leans:
            if lower in lags and (upper not in lags or lags[lower] + lag < lags[upper]):
                lags[upper] = lags[lower] + lag
    return lags
