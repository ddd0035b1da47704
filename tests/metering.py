"""Meters for the tests, reckoned by listing all readings."""

import itertools

from helpers import draws
from surelyseen.meters import Meter


def all_readings(meter):
    """All readings that fit, from the growths in the ticks."""
    found = []
    for growths in itertools.product(range(meter.low, meter.high + 1), repeat=meter.ticks):
        readings = [0]
        for one in growths:
            readings.append(readings[-1] + one)
        if all(own_holds(readings, fact) for fact in meter.facts):
            found.append(readings)
    return found


def own_holds(readings, fact):
    if fact[0] == "read":
        return readings[fact[1]] == fact[2]
    _, a, b, least, greatest = fact
    return least <= readings[b] - readings[a] <= greatest


def drawn_meter(draw, most_ticks=5, most_high=3):
    """A small meter; its facts are mostly true of some readings."""
    ticks = draw.randint(1, most_ticks)
    low = draw.choice([0, 0, 0, 1])
    high = low + draw.randint(0, most_high - low)
    hidden = [0]
    for _ in range(ticks):
        hidden.append(hidden[-1] + draw.randint(low, high))
    facts = []
    for _ in range(draw.randint(0, 4)):
        if draw.random() < 0.3:
            point = draw.randint(1, ticks)
            facts.append(("read", point, hidden[point] + draw.choice([0] * 9 + [1, -3])))
        else:
            a, b = sorted(draw.sample(range(ticks + 1), 2))
            grown = hidden[b] - hidden[a]
            facts.append(("grew", a, b, grown - draw.choice([0, 1, 2, 4, -2] if draw.random() < 0.1 else [0, 1, 2, 4]), grown + draw.randint(0, 3)))
    return Meter(ticks, low, high, facts)


def drawn_meters(seed, many, most_ticks=5, most_high=3):
    draw = draws(seed)
    return draw, [drawn_meter(draw, most_ticks, most_high) for _ in range(many)]


def own_overspent(readings, width, most):
    """The points at which the budget is overspent."""
    return [t for t in range(width, len(readings)) if readings[t] - readings[t - width] > most]


def step_of(facts, step):
    """Where a step starts and ends and what it costs; None if it does not exist."""
    number, side = step
    if not 0 <= number < len(facts):
        return None
    a, b, least, greatest = facts[number]
    if side == "high" and greatest is not None:
        return (a, b, greatest)
    return (b, a, -least) if side == "low" and least is not None else None


def check_low_ring(case, facts, ring):
    """The steps follow each other around, visit no other point twice, and cost less than 0 together."""
    parts = [step_of(facts, step) for step in ring]
    case.assertTrue(parts and None not in parts)
    for (_, end, _), (start, _, _) in zip(parts, parts[1:] + parts[:1]):
        case.assertEqual(end, start)
    case.assertEqual(len({start for start, _, _ in parts}), len(parts))
    case.assertLess(sum(cost for _, _, cost in parts), 0)


def check_way(case, facts, a, b, way, most):
    """The steps lead from a to b without visiting a point twice, and cost at most so much."""
    parts = [step_of(facts, step) for step in way]
    case.assertNotIn(None, parts)
    points = [a] + [end for _, end, _ in parts]
    case.assertEqual([start for start, _, _ in parts], points[:-1])
    case.assertEqual((points[-1], len(set(points))), (b, len(points)))
    case.assertLessEqual(sum(cost for _, _, cost in parts), most)


def own_facts(meter):
    """The facts of point 81, put together from the document's words."""
    facts = [(t, t + 1, meter.low, meter.high) for t in range(meter.ticks)]
    for fact in meter.facts:
        facts.append((0, fact[1], fact[2], fact[2]) if fact[0] == "read" else (fact[1], fact[2], fact[3], fact[4]))
    return facts


def large_meter(draw, ticks=24, facts=100):
    """A meter of 24 ticks with 100 facts that some readings with large numbers fit, and these readings."""
    hidden = [0]
    for _ in range(ticks):
        hidden.append(hidden[-1] + draw.randint(0, 1000000))
    found = []
    for _ in range(facts):
        a, b = sorted(draw.sample(range(ticks + 1), 2))
        grown = hidden[b] - hidden[a]
        if draw.random() < 0.1:
            found.append(("read", b, hidden[b]))
        else:
            found.append(("grew", a, b, draw.choice([grown - draw.randint(0, 10 ** 6), -999999999999]), draw.choice([grown + draw.randint(0, 10 ** 6), 999999999999])))
    return Meter(ticks, 0, 1000000, found), hidden
