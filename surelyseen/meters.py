"""Meters: counts of events from the start, whose readings are known at some points only."""

from surelyseen.errors import BadMeter, NoSuchSum
from surelyseen.heights import difference
from surelyseen.steps import fits_facts
from surelyseen.world import is_stream, levels_of

MOST_TICKS = 24
MOST_GROWTH = 1000000


class Meter:
    """A meter; its points are numbered from 0, the start, to the number of ticks."""

    def __init__(self, ticks, low, high, facts):
        self.ticks = ticks
        self.low = low
        self.high = high
        self.facts = tuple([tuple(fact) for fact in facts])
        if not 1 <= ticks <= MOST_TICKS:
            raise BadMeter("a meter has 1 to 24 ticks")
        if not 0 <= low <= high <= MOST_GROWTH:
            raise BadMeter("the growth in a tick has bounds with 0 <= low <= high <= 1000000")
        for fact in self.facts:
            if fact[0] == "read":
                check_read(self, fact[1])
            elif not 0 <= fact[1] < fact[2] <= ticks:
                raise BadMeter("the meter grows from one point to a later one")


def readings_fit(meter, readings):
    """Whether a list of integers is one of readings that fit the meter."""
    if len(readings) != meter.ticks + 1 or readings[0] != 0:
        return False
    return fits_facts(meter_facts(meter), readings)


def meter_facts(meter):
    """Facts about heights that say the same as the meter."""
    found = [(tick, tick + 1, meter.low, meter.high) for tick in range(meter.ticks)]
    for fact in meter.facts:
        if fact[0] == "read":
            _, point, value = fact
            found.append((0, point, value, value))
        else:
            found.append(fact[1:])
    return found


def growth(meter, a, b):
    """The least and the greatest growth from one point to another in all readings that fit."""
    if not 0 <= a <= b <= meter.ticks:
        raise BadMeter("the meter grows from one of its points to the same or a later one")
    return difference(meter.ticks + 1, meter_facts(meter), a, b)


def stream_meter(box, stream):
    """The meter of a stream, which knows what the box says of the stream's own sums."""
    world = box.world
    if not is_stream(world, stream):
        raise NoSuchSum((stream, 0, 0))
    facts = []
    for level in levels_of(world, stream):
        size = world.sizes[level]
        for index in range(world.ticks // size):
            asked = (stream, level, index)
            facts.append(("grew", index * size, (index + 1) * size, box.low_of(asked), box.high_of(asked)))
    _, low, high = world.streams[world.members[stream][0]]
    return Meter(world.ticks, low, high, facts)


def check_read(meter, point):
    """Raise BadMeter unless the meter can be read at the point."""
    if not 1 <= point <= meter.ticks:
        raise BadMeter("a meter is read at a point from 1 to its number of ticks")
