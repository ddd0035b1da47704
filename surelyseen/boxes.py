"""Boxes: an interval for every sum of a world."""

from surelyseen.errors import OtherWorld
from surelyseen.world import check_sum, is_run, sum_values


class Box:
    """A box; iterating over it gives triples (sum, low, high) in the order of the sums."""

    def __init__(self, world):
        self.world = world
        self._rows = world.ranges

    def low_of(self, asked):
        """The low of a sum's interval."""
        check_sum(self.world, asked)
        return self._rows[self.world.places[asked]][1]

    def high_of(self, asked):
        """The high of a sum's interval."""
        check_sum(self.world, asked)
        return self._rows[self.world.places[asked]][2]

    def narrowed(self, asked, *, least=None, greatest=None):
        """A new box in which the sum's interval is narrowed."""
        low = self.low_of(asked)
        high = self.high_of(asked)
        if least is not None:
            low = max(low, least)
        if greatest is not None:
            high = min(high, greatest)
        place = self.world.places[asked]
        found = Box(self.world)
        found._rows = self._rows[:place] + ((asked, low, high),) + self._rows[place + 1:]
        return found

    def __and__(self, other):
        if self.world != other.world:
            raise OtherWorld("the boxes belong to different worlds")
        both = Box(self.world)
        both._rows = tuple([
            (mine[0], max(mine[1], more[1]), min(mine[2], more[2]))
            for mine, more in zip(self._rows, other._rows)
        ])
        return both

    def __eq__(self, other):
        return isinstance(other, Box) and self.world == other.world and self._rows == other._rows

    def __iter__(self):
        return iter(self._rows)


def fits_box(box, table):
    """Whether a table is a run of the box's world and each of its sums lies in its interval."""
    if not is_run(box.world, table):
        return False
    return values_fit(box, sum_values(box.world, table))


def narrowed_by(box, demands):
    """The box narrowed by triples (sum, least, greatest), where None leaves a side as it is."""
    for asked, least, greatest in demands:
        box = box.narrowed(asked, least=least, greatest=greatest)
    return box


def values_fit(box, values):
    """Whether values, one for each sum in their order, lie in the intervals."""
    for (_, low, high), value in zip(box, values):
        if not low <= value <= high:
            return False
    return True


def empty_sum(box):
    """The first sum whose interval is empty, or None."""
    for asked, low, high in box:
        if low > high:
            return asked
    return None
