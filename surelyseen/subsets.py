"""Subsets of some places, the smaller ones first."""


def subsets(many, size):
    """All lists of so many different numbers below a number, each ascending, in ascending order."""
    found = [[]]
    for left in range(size - 1, -1, -1):
        found = [
            chosen + [number] for chosen in found
            for number in range(chosen[-1] + 1 if chosen else 0, many - left)
        ]
    return found


def least_subsets(many, is_enough):
    """The lists of numbers below a number that are enough while none is that lacks some of theirs.

    Shorter ones come first, those of equal length in ascending order.
    """
    found = []
    for size in range(many + 1):
        for numbers in subsets(many, size):
            if not _has_any(numbers, found) and is_enough(numbers):
                found.append(numbers)
    return found


def _has_any(numbers, smaller):
    """Whether one of some lists lies within the numbers."""
    return any([all([number in numbers for number in one]) for one in smaller])
