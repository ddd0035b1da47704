"""Peaks and troughs of a list of sums.

Both are worked out as one: with sign 1 the top of some values is their peak, with sign -1 the negative of their trough.
"""

from surelyseen.errors import BadList, OutOfRange
from surelyseen.flows import fit, fitting_run, lowered, raised
from surelyseen.world import check_sum, sum_value


def peak(box, asked):
    """The least and the greatest peak, and runs that reach them."""
    return _tops(box, asked, 1)


def trough(box, asked):
    """The least and the greatest trough, and runs that reach them."""
    low, high, low_run, high_run = _tops(box, asked, -1)
    return (-high, -low, high_run, low_run)


def run_with_peak(box, asked, value):
    """A run that fits whose peak is the value."""
    low, high, _, _ = peak(box, asked)
    if not low <= value <= high:
        raise OutOfRange(low, high)
    return _run_with_top(box, asked, value, 1)


def run_with_trough(box, asked, value):
    """A run that fits whose trough is the value."""
    low, high, _, _ = trough(box, asked)
    if not low <= value <= high:
        raise OutOfRange(low, high)
    return _run_with_top(box, asked, -value, -1)


def _tops(box, asked, sign):
    if not asked:
        raise BadList("a peak is one of at least one sum")
    for one in asked:
        check_sum(box.world, one)
    run = fitting_run(box)
    low, low_run = _least_top(box, asked, run, sign)
    high, high_run = _greatest_top(box, asked, run, sign)
    return (low, high, low_run, high_run)


def _least_top(box, asked, run, sign):
    low = max([sign * (box.low_of(one) if sign == 1 else box.high_of(one)) for one in asked])
    high = _top(box, asked, run, sign)
    while low < high:
        middle = (low + high) // 2
        word, found = fit(_capped(box, asked, middle, sign))
        if word == "run":
            run = found
            high = _top(box, asked, run, sign)
        else:
            low = middle + 1
    return high, run


def _greatest_top(box, asked, run, sign):
    found = []
    for one in _different(asked):
        value, reaching = _farthest(box, one, run, sign)
        if not found or value > found[0]:
            found = [value, reaching]
    return found[0], found[1]


def _run_with_top(box, asked, value, sign):
    """A run with this top: in a capped box some sum still reaches the cap."""
    capped = _capped(box, asked, value, sign)
    run = fitting_run(capped)
    for one in _different(asked):
        if sign * sum_value(box.world, run, one) < value:
            _, run = _farthest(capped, one, run, sign)
        if sign * sum_value(box.world, run, one) == value:
            break
    return run


def _farthest(box, one, run, sign):
    """The greatest value of a sum times the sign, and a run that reaches it, found from any run that fits."""
    value, reaching, _ = raised(box, run, one) if sign == 1 else lowered(box, run, one)
    return sign * value, reaching


def _capped(box, asked, most, sign):
    """The box in which no sum times the sign is more than most."""
    for one in asked:
        box = box.narrowed(one, greatest=most) if sign == 1 else box.narrowed(one, least=-most)
    return box


def _top(box, asked, run, sign):
    return max([sign * sum_value(box.world, run, one) for one in asked])


def _different(asked):
    return list({one: True for one in asked})
