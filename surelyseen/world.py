"""The world: its streams, ticks, folds and groups, and the sums that they make."""

from surelyseen.errors import BadName, BadWorld, NoSuchSum
from surelyseen.names import is_name

MOST_STREAMS = 6
MOST_COUNT = 1000000
LEAST_TICKS = 2
MOST_TICKS = 16
MOST_FOLDS = 4
MOST_GROUPS = 5


class World:
    """A world; beside what it was made from it holds what its sums are.

    sizes: the window size of each level.
    members: for each who the numbers of its streams, ascending.
    order: all sums in their order.
    places: the place of each sum in that order.
    ranges: a triple (sum, low, high) for each sum, in that order.
    """

    def __init__(self, streams, *, ticks, folds, groups=()):
        self.streams = tuple([(name, low, high) for name, low, high in streams])
        self.ticks = ticks
        self.folds = tuple(folds)
        self.groups = tuple([(name, tuple(members)) for name, members in groups])
        names = [stream[0] for stream in self.streams]
        _check_streams(self.streams)
        _check_folds(self.ticks, self.folds)
        _check_groups(names, self.groups)
        self.sizes = (1,) + self.folds
        self.members = _members(names, self.groups)
        self.order = tuple(_order(self))
        self.places = {asked: place for place, asked in enumerate(self.order)}
        self.ranges = tuple([_with_range(self, asked) for asked in self.order])

    def __eq__(self, other):
        if not isinstance(other, World):
            return False
        if self.streams != other.streams or self.ticks != other.ticks:
            return False
        return self.folds == other.folds and self.groups == other.groups


def sums(world):
    """All sums in their order."""
    return list(world.order)


def check_sum(world, asked):
    """Raise NoSuchSum unless the triple is a sum of the world."""
    if asked not in world.places:
        raise NoSuchSum(asked)


def cells_of(world, asked):
    """The cells (stream, tick) that a sum adds up."""
    check_sum(world, asked)
    ticks = ticks_of(world, asked)
    return [(world.streams[k][0], tick) for k in world.members[asked[0]] for tick in ticks]


def sum_range(world, asked):
    """The total of the lows and the total of the highs of the cells of a sum."""
    check_sum(world, asked)
    _, low, high = world.ranges[world.places[asked]]
    return (low, high)


def sum_value(world, table, asked):
    """The value of a sum in a table."""
    check_sum(world, asked)
    ticks = ticks_of(world, asked)
    return sum([table[k][tick] for k in world.members[asked[0]] for tick in ticks])


def is_run(world, table):
    """Whether a list of lists of integers is a run of the world."""
    if len(table) != len(world.streams):
        return False
    for stream, counts in zip(world.streams, table):
        if len(counts) != world.ticks:
            return False
        if min(counts) < stream[1] or max(counts) > stream[2]:
            return False
    return True


def ticks_of(world, asked):
    """The ticks of the window of a sum that exists."""
    _, level, index = asked
    size = world.sizes[level]
    return list(range(index * size, (index + 1) * size))


def sum_values(world, table):
    """The values of all sums in a table, in the order of the sums."""
    totals = {}
    for who, members in world.members.items():
        totals[who] = [sum([table[k][tick] for k in members]) for tick in range(world.ticks)]
    found = []
    for who, level, index in world.order:
        size = world.sizes[level]
        found.append(sum(totals[who][index * size:(index + 1) * size]))
    return found


def is_cell(world, asked):
    """Whether a sum that exists is a single cell; that of one stream alone is not the one of all streams."""
    who, level, _ = asked
    return level == 0 and who != "all" and len(world.members[who]) == 1


def cell_table(world, values):
    """The table whose sums have these values, which are those of a table."""
    return [[values[world.places[(name, 0, tick)]] for tick in range(world.ticks)] for name, _, _ in world.streams]


def is_stream(world, who):
    """Whether there is a stream of this name."""
    return who in [name for name, _, _ in world.streams]


def streams_of(world, who):
    """The names of the streams of a stream, a group or all, in the order of the world."""
    return [world.streams[k][0] for k in world.members[who]]


def group_with(world, streams):
    """The group with exactly these different streams, in any order, or None."""
    for group, members in world.groups:
        if sorted(members) == sorted(streams):
            return group
    return None


def levels_of(world, who):
    """The levels at which who, a stream, a group or all, has sums."""
    top = len(world.folds)
    for name, _ in world.groups:
        if name == who:
            return [0, top]
    return list(range(top + 1))


def _order(world):
    found = []
    for who in world.members:
        for level in levels_of(world, who):
            for index in range(world.ticks // world.sizes[level]):
                found.append((who, level, index))
    return found


def _members(names, groups):
    found = {name: (k,) for k, name in enumerate(names)}
    for group, members in groups:
        found[group] = tuple([k for k, name in enumerate(names) if name in members])
    found["all"] = tuple(range(len(names)))
    return found


def _with_range(world, asked):
    who, level, _ = asked
    size = world.sizes[level]
    low = sum([world.streams[k][1] for k in world.members[who]]) * size
    high = sum([world.streams[k][2] for k in world.members[who]]) * size
    return (asked, low, high)


def _check_streams(streams):
    if not 1 <= len(streams) <= MOST_STREAMS:
        raise BadWorld("a world has 1 to 6 streams")
    used = []
    for name, low, high in streams:
        _check_new_name(name, used)
        if not 0 <= low <= high <= MOST_COUNT:
            raise BadWorld("a stream has bounds with 0 <= low <= high <= 1000000")
        used.append(name)


def _check_new_name(name, used):
    if not is_name(name) or name in used:
        raise BadName(name)


def _check_folds(ticks, folds):
    if not LEAST_TICKS <= ticks <= MOST_TICKS:
        raise BadWorld("a world has 2 to 16 ticks")
    if not 1 <= len(folds) <= MOST_FOLDS:
        raise BadWorld("a world has one to four folds")
    before = 1
    for size in folds:
        if size <= before or size % before != 0:
            raise BadWorld("each fold is a larger multiple of the one before, the first is at least 2")
        before = size
    if before != ticks:
        raise BadWorld("the last fold is the number of ticks")


def _check_groups(names, groups):
    if len(groups) > MOST_GROUPS:
        raise BadWorld("a world has at most five groups")
    used = list(names)
    earlier = []
    for name, members in groups:
        _check_new_name(name, used)
        _check_members(names, members)
        for others in earlier:
            _check_pair(members, others)
        used.append(name)
        earlier.append(members)


def _check_members(names, members):
    for member in members:
        if member not in names:
            raise BadWorld("the members of a group are streams")
    if len(set(members)) != len(members):
        raise BadWorld("the members of a group are different")
    if not 2 <= len(members) < len(names):
        raise BadWorld("a group has at least two streams, but not all")


def _check_pair(members, others):
    common = len([member for member in members if member in others])
    if common == len(members) == len(others):
        raise BadWorld("two groups have different members")
    if common not in (0, len(members), len(others)):
        raise BadWorld("two groups have no stream in common, or one lies within the other")
