"""Least meeting sets: sets of windows that have a window of every stretch of a length, and none to spare.

With one window put in before the first and one behind the last, a set meets every stretch if no step from a window
of it to the next is longer than `length`. None is to spare if any two steps that follow each other are longer
together.
"""


def meeting_sets(first, many, length):
    """The least meeting sets of the stretches of a length within so many windows, in ascending order as lists."""
    end = first + many
    found = []
    started = [[first - 1]]
    while started:
        windows = started.pop()
        low = windows[-1] + 1 if len(windows) == 1 else windows[-2] + length + 1
        high = windows[-1] + length
        if low <= end <= high:
            found.append(windows[1:])
        for window in range(low, min(high + 1, end)):
            started.append(windows + [window])
    return sorted(found)


def meeting_count(many, length):
    """How many least meeting sets there are, told without building them."""
    ways = {}
    for place in range(1, many + 2):
        for step in range(1, min(length, place) + 1):
            ways[(place, step)] = _ways_before(ways, place - step, step, length)
    return sum([ways[(many + 1, step)] for step in range(1, min(length, many + 1) + 1)])


def _ways_before(ways, place, step, length):
    """In how many ways a place can be reached so that this step can follow; the place 0 is the beginning."""
    if place == 0:
        return 1
    return sum([ways[(place, before)] for before in range(1, min(length, place) + 1) if before + step > length])
