"""What is sure, found by listing runs and leaving out items one by one, for the tests."""

from asking import own_holds
from surelyseen.items import written_item


def own_reasons(items, word_of):
    """The list that point 98 finds, item by item, if `word_of` tells the word for a list; None for "open"."""
    word = word_of(items)
    if word == "open":
        return None
    left = sorted(set(items), key=written_item)
    for item in list(left):
        rest = [other for other in left if other != item]
        if word_of(rest) == word:
            left = rest
    return left


def listed_word(happenings, runs, items, question):
    """The word of the answer, by listing all runs that fit the items."""
    world = happenings.setup.world
    verdicts = {own_holds(world, run, question) for run in runs if happenings.fits(items, run)}
    return {(): "clash", (True,): "yes", (False,): "no", (False, True): "open"}[tuple(sorted(verdicts))]


def own_least_clash(items, fits):
    """The list that point 44 finds, item by item, if `fits` tells whether some run fits a list."""
    if fits(items):
        return None
    different = []
    for item in sorted(items, key=written_item):
        if item not in different:
            different.append(item)
    for item in list(different):
        rest = [other for other in different if other != item]
        if not fits(rest):
            different = rest
    return different
