"""Which faults were at work."""

from surelyseen.causes import check_lot, check_world, fit_lot
from surelyseen.subsets import least_subsets


def least_faults(box, causes):
    """All least lots that fit."""
    return _named(causes, _least_lots(box, causes))


def conflicts(box, causes):
    """All least conflicts: sets of faults that have a fault of every lot that fits."""
    lots = _least_lots(box, causes)
    found = least_subsets(
        len(causes.faults),
        lambda numbers: all([any([number in lot for number in numbers]) for lot in lots]),
    )
    return _named(causes, found)


def blame(box, causes, name):
    """("clash", balance), ("surely", lot, balance), ("perhaps", lot, other) or ("needless", lot)."""
    check_world(box, causes)
    check_lot(causes, [name])
    lots = least_faults(box, causes)
    every = [fault[0] for fault in causes.faults]
    if not lots:
        return ("clash", fit_lot(box, causes, every)[1])
    having = [lot for lot in lots if name in lot]
    others = [lot for lot in lots if name not in lot]
    if not having:
        return ("needless", others[0])
    if others:
        return ("perhaps", having[0], others[0])
    return ("surely", having[0], fit_lot(box, causes, [other for other in every if other != name])[1])


def _least_lots(box, causes):
    """The least lots that fit, as lists of the places of their faults."""
    return least_subsets(
        len(causes.faults),
        lambda numbers: fit_lot(box, causes, _lot_of(causes, numbers))[0] == "run",
    )


def _lot_of(causes, numbers):
    return [causes.faults[number][0] for number in numbers]


def _named(causes, found):
    return [_lot_of(causes, numbers) for numbers in found]
