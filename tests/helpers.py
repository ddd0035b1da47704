"""Worlds, draws and plain reckonings for the tests; nothing here asks the program what it is to be tested for."""

import itertools
import random

from surelyseen.boxes import Box
from surelyseen.world import World

DOC_STREAMS = [("ok", 0, 9), ("err", 0, 3), ("slow", 0, 3)]


def doc_world():
    """The world of the document's example."""
    return World(DOC_STREAMS, ticks=4, folds=[2, 4], groups=[("bad", ["err", "slow"])])


def large_world(low=0, high=1000000):
    """6 streams, 16 ticks, folds 2, 4, 8, 16 and four groups, as many as such a world can have."""
    groups = [("trio", ["c", "b", "a"]), ("inner", ["c", "a"]), ("outer", ["e", "f"]), ("four", ["d", "c", "b", "a"])]
    return World([(name, low, high) for name in "abcdef"], ticks=16, folds=[2, 4, 8, 16], groups=groups)


def small_worlds():
    """Worlds whose runs can all be listed."""
    return [
        World([("a", 0, 2), ("b", 0, 2)], ticks=2, folds=[2]),
        World([("a", 0, 1), ("b", 0, 2), ("c", 0, 1)], ticks=2, folds=[2], groups=[("g", ["a", "b"])]),
        World([("a", 0, 2)], ticks=4, folds=[2, 4]),
        World(
            [("a", 0, 1), ("b", 0, 1), ("c", 0, 1), ("d", 0, 1)], ticks=2, folds=[2],
            groups=[("h", ["c", "b", "a"]), ("g", ["a", "b"])],
        ),
        World([("a", 1, 2), ("b", 3, 3), ("c", 0, 2)], ticks=2, folds=[2], groups=[("g", ["b", "c"])]),
        World([("a", 0, 1), ("b", 0, 1)], ticks=4, folds=[2, 4]),
        World([("a", 0, 1)], ticks=8, folds=[2, 4, 8]),
    ]


def own_sums(world):
    """All sums in their order."""
    found = []
    top = len(world.folds)
    whos = [(stream[0], list(range(top + 1))) for stream in world.streams]
    whos += [(group[0], [0, top]) for group in world.groups]
    whos += [("all", list(range(top + 1)))]
    for who, levels in whos:
        for level in levels:
            size = 1 if level == 0 else world.folds[level - 1]
            found += [(who, level, index) for index in range(world.ticks // size)]
    return found


def own_cells(world, asked):
    """The pairs (number of the stream, tick) that a sum adds up."""
    who, level, index = asked
    size = 1 if level == 0 else world.folds[level - 1]
    names = [stream[0] for stream in world.streams]
    members = names if who == "all" else dict(world.groups).get(who, (who,))
    return [
        (k, tick) for k, name in enumerate(names) if name in members
        for tick in range(index * size, index * size + size)
    ]


def own_value(world, table, asked):
    return sum(table[k][tick] for k, tick in own_cells(world, asked))


def own_values(world, table):
    return [own_value(world, table, asked) for asked in own_sums(world)]


def own_weights(world, balance):
    found = [[0] * world.ticks for _ in world.streams]
    for asked, coefficient in balance:
        for k, tick in own_cells(world, asked):
            found[k][tick] += coefficient
    return found


def own_bound(box, balance, side):
    """The floor (side 0) or the ceiling (side 1) of a balance."""
    intervals = {asked: (low, high) for asked, low, high in box}
    return sum(
        coefficient * intervals[asked][side if coefficient > 0 else 1 - side] for asked, coefficient in balance
    )


def all_runs(world):
    cells = [range(low, high + 1) for _, low, high in world.streams for _ in range(world.ticks)]
    for counts in itertools.product(*cells):
        yield [list(counts[k:k + world.ticks]) for k in range(0, len(counts), world.ticks)]


def own_fits(box, table):
    return all(low <= own_value(box.world, table, asked) <= high for asked, low, high in box)


class Listing:
    """A small world with all its runs and the values of their sums, to list which of them fit a box."""

    def __init__(self, world):
        self.world = world
        self.sums = own_sums(world)
        self.runs = [(run, own_values(world, run)) for run in all_runs(world)]

    def fitting(self, box):
        """The runs that fit, each with the values of its sums by sum."""
        rows = list(box)
        return [
            (run, dict(zip(self.sums, values))) for run, values in self.runs
            if all(low <= value <= high for (_, low, high), value in zip(rows, values))
        ]


def drawn_run(draw, world):
    return [[draw.randint(low, high) for _ in range(world.ticks)] for _, low, high in world.streams]


def drawn_box(draw, world, many, slack):
    """A box that is narrowed at some sums to within the slack of a drawn run each; it may fit no run."""
    box = Box(world)
    hidden = drawn_run(draw, world)
    for asked in draw.choices(own_sums(world), k=many):
        if draw.random() < 0.2:
            hidden = drawn_run(draw, world)
        value = own_value(world, hidden, asked)
        side = draw.randint(0, 2)
        if side != 0:
            box = box.narrowed(asked, least=value - draw.randint(0, slack))
        if side != 1:
            box = box.narrowed(asked, greatest=value + draw.randint(0, slack))
    return box


def fitting_box(draw, world, share, slack):
    """A box that is narrowed around one run, and this run."""
    box = Box(world)
    hidden = drawn_run(draw, world)
    for asked, value in zip(own_sums(world), own_values(world, hidden)):
        if draw.random() < share:
            box = box.narrowed(asked, least=value - draw.randint(0, slack), greatest=value + draw.randint(0, slack))
    return box, hidden


def drawn_net(draw, most_nodes=6, most_arcs=9):
    """The numbers of nodes and the arcs of a net, several between the same nodes among them."""
    nodes = draw.randint(2, most_nodes)
    arcs = [tuple(draw.sample(range(nodes), 2)) for _ in range(draw.randint(1, most_arcs))]
    return nodes, arcs


def draws(seed):
    return random.Random(seed)


def check_unit(case, balance):
    """Every coefficient is 1 or -1, and no pair occurs twice."""
    case.assertIsInstance(balance, list)
    case.assertTrue(all(coefficient in (1, -1) for _, coefficient in balance))
    case.assertEqual(len(set(balance)), len(balance))


def check_clash(case, box, balance):
    """The balance shows a clash of the box, in the form that `fit` promises."""
    check_unit(case, balance)
    case.assertFalse(any(any(row) for row in own_weights(box.world, balance)))
    case.assertGreater(own_bound(box, balance, 0), 0)
