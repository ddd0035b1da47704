"""Budgets over meters: whether more was used in a stretch than it may have."""

from surelyseen.errors import BadMeter, NoHeights
from surelyseen.heights import cheapest_way, heights_or_ring
from surelyseen.meters import check_read, growth, meter_facts
from surelyseen.steps import way_cost
from surelyseen.subsets import subsets

MOST_TICKS_TO_READ = 8


def budget_states(meter, width, most):
    """For each point from width on whether the budget is overspent at it: "yes", "no" or "open"."""
    _check_width(meter, width)
    found = []
    for point in range(width, meter.ticks + 1):
        least, greatest = growth(meter, point - width, point)
        found.append("yes" if least > most else "no" if greatest <= most else "open")
    return found


def overspent(meter, width, most):
    """("yes", ring), ("no", ways) or ("open", over, under): whether the budget is overspent at any point at all."""
    _check_width(meter, width)
    facts = meter_facts(meter)
    points = meter.ticks + 1
    _check_fitting(points, facts)
    word, found = heights_or_ring(points, facts + _limit_facts(meter, width, most, 0))
    if word == "ring":
        return ("yes", found)
    ways = []
    for start in range(points - width):
        ways.append(cheapest_way(points, facts, start, start + width))
        if way_cost(facts, ways[-1]) > most:
            _, over = heights_or_ring(points, facts + [(start, start + width, most + 1, None)])
            return ("open", over, found)
    return ("no", ways)


def settles(meter, width, most, points):
    """("settled", rings) if reading the meter at the points settles the budget, or ("parts", over, under)."""
    _check_width(meter, width)
    for point in points:
        check_read(meter, point)
    _check_fitting(meter.ticks + 1, meter_facts(meter))
    return _settled(meter, width, most, points)


def least_reads(meter, width, most):
    """All lists of points with the least number of points that settle the budget."""
    _check_width(meter, width)
    if meter.ticks > MOST_TICKS_TO_READ:
        raise BadMeter("the least reads are told of up to 8 ticks")
    _check_fitting(meter.ticks + 1, meter_facts(meter))
    for size in range(meter.ticks + 1):
        found = []
        for numbers in subsets(meter.ticks, size):
            points = [number + 1 for number in numbers]
            if _settled(meter, width, most, points)[0] == "settled":
                found.append(points)
        if found:
            return found
    return []


def _check_width(meter, width):
    if not 1 <= width <= meter.ticks:
        raise BadMeter("a budget is about 1 tick to all ticks of the meter")


def _check_fitting(points, facts):
    word, found = heights_or_ring(points, facts)
    if word == "ring":
        raise NoHeights(found)


def _limit_facts(meter, width, most, shift):
    """The facts that the budget is overspent at no point; the points are shifted to those of a copy."""
    return [
        (start + shift, start + width + shift, None, most)
        for start in range(meter.ticks - width + 1)
    ]


def _settled(meter, width, most, points):
    """What `settles` returns, for a meter that some readings fit."""
    copied = meter.ticks + 1
    facts = meter_facts(meter)
    facts = facts + [(a + copied, b + copied, least, greatest) for a, b, least, greatest in facts]
    facts.append((0, copied, 0, 0))
    facts.extend([(point, copied + point, 0, 0) for point in points])
    limits = _limit_facts(meter, width, most, copied)
    rings = []
    for start in range(copied - width):
        word, found = heights_or_ring(2 * copied, facts + [(start, start + width, most + 1, None)] + limits)
        if word == "heights":
            return ("parts", found[:copied], found[copied:])
        rings.append(found)
    return ("settled", rings)
