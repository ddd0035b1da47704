"""Lots: the fewest and the cheapest sums that tell promised ones."""

from surelyseen.errors import BadList, TooManyLots
from surelyseen.joins import Joins
from surelyseen.telling import check_sums, is_fixed, told_places
from surelyseen.worldnet import net_of

MOST_LOTS = 100


class Choice:
    """The sums among which least lots are chosen: those that the promised ones tell, fixed cells left out.

    Without their arcs the world's net falls into parts. A set of them is a least lot exactly if the arcs that are not
    in it join the parts as far as they can be joined, without a ring.

    told: the places of these sums, ascending.
    """

    def __init__(self, world, promised):
        told = told_places(world, promised)
        net = net_of(world)
        self._nodes = net.nodes
        self._arcs = net.arcs
        self._others = [place for place, mark in enumerate(told) if not mark]
        self.told = [place for place, asked in enumerate(world.order) if told[place] and not is_fixed(world, asked)]

    def first_lot(self):
        """The least lot that comes first."""
        return self.lot_by(self.told)

    def lot_by(self, order):
        """The least lot into which, of all sums in some order, each goes that the ones before do not tell."""
        return self._filled(self._joins(), order)

    def next_lot(self, lot):
        """The least lot that follows one, or None.

        It leaves out the last sum that can be left out while those before it stay as they are.
        """
        joins = self._joins()
        turn = None
        for turning, place in enumerate(self.told):
            if place not in lot:
                joins.unite(self._arcs[place])
            elif joins.apart(self._arcs[place]):
                turn = turning
        if turn is None:
            return None
        joins = self._joins()
        kept = [place for place in self.told[:turn] if place in lot]
        for place in self.told[:turn + 1]:
            if place not in kept:
                joins.unite(self._arcs[place])
        return kept + self._filled(joins, self.told[turn + 1:])

    def _joins(self):
        """The parts in which the net falls."""
        joins = Joins(self._nodes)
        for place in self._others:
            joins.unite(self._arcs[place])
        return joins

    def _filled(self, joins, order):
        """What is left of the sums in an order, ascending, when the last ones first have joined all that they can."""
        left = []
        for place in reversed(order):
            if not joins.unite(self._arcs[place]):
                left.append(place)
        return sorted(left)


def rank(world, promised):
    """The least number of sums in a lot that tells the promised ones."""
    check_sums(world, promised)
    return len(Choice(world, promised).first_lot())


def least_lots(world, promised):
    """All lots with the least number of sums that tell the promised ones."""
    check_sums(world, promised)
    choice = Choice(world, promised)
    lot = choice.first_lot()
    found = []
    while lot is not None:
        if len(found) == MOST_LOTS:
            raise TooManyLots(MOST_LOTS)
        found.append(_sums_at(world, lot))
        lot = choice.next_lot(lot)
    return found


def is_least_lot(world, promised, lot):
    """Whether a list of sums is a lot with the least number of sums that tells the promised ones.

    If it has this number of entries and tells them, it repeats none: fewer sums would not tell them.
    """
    check_sums(world, promised)
    check_sums(world, lot)
    if len(lot) != rank(world, promised):
        return False
    told = told_places(world, lot)
    return all([told[world.places[asked]] for asked in promised])


def cheapest_lot(world, promised, costs):
    """The lot that tells the promised sums into which the cheap sums went first."""
    check_sums(world, promised)
    if len(costs) != len(world.order):
        raise BadList("there is one cost for each sum")
    choice = Choice(world, promised)
    by_cost = sorted([(costs[place], place) for place in choice.told])
    return _sums_at(world, choice.lot_by([place for _, place in by_cost]))


def _sums_at(world, places):
    return [world.order[place] for place in places]
