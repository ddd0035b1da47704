"""Budgets over the streams of a world: whether more happened in a stretch than there may."""

from surelyseen.errors import BadList
from surelyseen.prices import heaviest, lightest, stretch


def budget_state(box, who, width, most, point):
    """("yes", run, balance), ("no", run, balance) or ("open", run, other) for the ticks before a point."""
    if not 1 <= width <= point <= box.world.ticks:
        raise BadList("a stretch has at least one tick and lies within the world's")
    weights = stretch(box.world, who, point - width, point - 1)
    least, under, floor = lightest(box, weights)
    if least > most:
        return ("yes", under, floor)
    greatest, over, ceiling = heaviest(box, weights)
    if greatest <= most:
        return ("no", over, ceiling)
    return ("open", over, under)
