"""Which items cannot be true together."""

from surelyseen.flows import fit
from surelyseen.gathering import box_of
from surelyseen.items import in_written_order


def least_clash(setup, items):
    """A list of items that no run fits, while some run fits if any one is left out; None if some run fits all."""
    if not _clash(setup, items):
        return None
    return thinned(items, lambda fewer: _clash(setup, fewer))


def thinned(items, is_enough):
    """The different items, sorted by their written forms, less each that can be left out, one after the other."""
    left = in_written_order(items)
    for item in in_written_order(items):
        fewer = [other for other in left if other != item]
        if is_enough(fewer):
            left = fewer
    return left


def _clash(setup, items):
    return fit(box_of(setup, items))[0] == "clash"
