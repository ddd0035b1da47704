"""Setups: how a world is watched, and which items can be gathered."""

from surelyseen.errors import BadItem, BadSetup
from surelyseen.world import check_sum, group_with, is_stream, streams_of

MOST_CAP = 1000
MOST_RULES = 6
MOST_MODULUS = 1000
MOST_SERIAL = 999
MOST_REPORTS = 1000
MOST_TOTAL = 999999999
MOST_NUMBER = 9999
MOST_NUMBERS = 200


class Setup:
    """A setup; beside what it was made from it holds its sample rules by name.

    rules: for each who that has a sample rule the triple (modulus, rest, always).
    """

    def __init__(self, world, *, cap=9, samples=()):
        self.world = world
        self.cap = cap
        self.samples = tuple([(who, modulus, rest, tuple(always)) for who, modulus, rest, always in samples])
        self.rules = {who: (modulus, rest, always) for who, modulus, rest, always in self.samples}
        if not 1 <= cap <= MOST_CAP:
            raise BadSetup("a report tells 1 to 1000 events at most")
        if len(self.samples) > MOST_RULES or len(self.rules) != len(self.samples):
            raise BadSetup("there are up to six sample rules, and one for each who")
        for rule in self.samples:
            _check_rule(world, rule)

    def __eq__(self, other):
        if not isinstance(other, Setup):
            return False
        return self.world == other.world and self.cap == other.cap and self.samples == other.samples


def check_item(setup, item):
    """Raise NoSuchSum or BadItem unless the item can be gathered under the setup."""
    check_sum(setup.world, _sum_of(item))
    if not _is_sound(setup, item):
        raise BadItem(item)


def check_items(setup, items):
    """Check each item of a list, first to last."""
    for item in items:
        check_item(setup, item)


def _check_rule(world, rule):
    who, modulus, rest, always = rule
    if who not in world.members or is_stream(world, who):
        raise BadSetup("a sample rule is about a group or all")
    if not 0 <= rest < modulus <= MOST_MODULUS:
        raise BadSetup("a sample rule has 0 <= rest < modulus <= 1000")
    streams = streams_of(world, who)
    for name in always:
        if name not in streams:
            raise BadSetup("what is always kept are streams of who")
    if len(set(always)) != len(always):
        raise BadSetup("what is always kept are different streams")
    if len(always) not in (0, 1, len(streams)) and group_with(world, always) is None:
        raise BadSetup("what is always kept is no stream, one stream, a group or all streams of who")


def _sum_of(item):
    """The sum that must exist for the item to mean something."""
    if item[0] == "total":
        return item[1]
    return (item[1], 0, item[2])


def _is_sound(setup, item):
    """Whether the item, whose sum exists, has numbers and names as they must be."""
    word = item[0]
    if word == "total":
        return 0 <= item[2] <= item[3] <= MOST_TOTAL
    if word in ("row", "rows"):
        return item[1] in setup.rules and _is_sound_row(setup, item)
    if not is_stream(setup.world, item[1]):
        return False
    if word == "close":
        return 0 <= item[3] <= MOST_REPORTS
    return 0 <= item[3] <= MOST_SERIAL and 1 <= item[4] <= setup.cap


def _is_sound_row(setup, item):
    if item[0] == "row":
        return 0 <= item[3] <= MOST_NUMBER and item[4] in streams_of(setup.world, item[1])
    numbers = item[3]
    if len(numbers) > MOST_NUMBERS:
        return False
    before = -1
    for number in numbers:
        if not before < number <= MOST_NUMBER:
            return False
        before = number
    return True
