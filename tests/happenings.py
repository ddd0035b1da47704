"""All that could have happened in small setups: reports and rows, listed one by one, and which items they fit."""

import itertools

from helpers import own_value
from surelyseen.setups import Setup
from surelyseen.world import World


def small_world():
    """A world whose runs and rows can all be listed."""
    return World(
        [("a", 0, 2), ("b", 0, 1), ("c", 0, 1)], ticks=2, folds=[2], groups=[("g", ["a", "b"])],
    )


def small_setups():
    world = small_world()
    rules = [
        [("all", 3, 0, [])], [("all", 2, 1, [])], [("all", 2, 0, ["a"])], [("all", 3, 1, ["b", "a"])],
        [("all", 3, 2, ["c", "a", "b"])], [("g", 2, 1, ["b"])], [("g", 1, 0, []), ("all", 4, 3, ["c"])],
        [("g", 2, 0, ["b", "a"]), ("all", 2, 1, ["a", "b"])], [("g", 2, 1, [])], [("all", 1, 0, ["b"])],
    ]
    setups = [Setup(world, cap=2, samples=samples) for samples in rules]
    lone = World([("a", 0, 4)], ticks=2, folds=[2])
    high = World([("a", 1, 2), ("b", 0, 2)], ticks=2, folds=[2])
    return setups + [
        Setup(lone, cap=3, samples=[("all", 2, 1, ["a"])]), Setup(lone, cap=1, samples=[("all", 2, 0, [])]),
        Setup(high, cap=2, samples=[("all", 2, 0, ["b"])]),
    ]


def members_of(world, who):
    names = [stream[0] for stream in world.streams]
    return names if who == "all" else [name for name in names if name in dict(world.groups).get(who, (who,))]


def report_lists(count, cap):
    """All lists of reports of 1 to cap events with this total."""
    if count == 0:
        return [[]]
    return [[events] + rest for events in range(1, min(cap, count) + 1) for rest in report_lists(count - events, cap)]


def row_lists(counts):
    """All lists of forms with these counts, a dict."""
    forms = [form for form, many in counts.items() for _ in range(many)]
    return sorted(set(itertools.permutations(forms)))


def reports_fit(setup, items, stream, tick, count):
    """Whether some reports of this many events fit the items about the cell."""
    told = [item for item in items if item[0] in ("count", "close") and item[1:3] == (stream, tick)]
    return any(
        all(
            (item[0] == "close" and item[3] == len(reports)) or
            (item[0] == "count" and item[3] < len(reports) and reports[item[3]] == item[4])
            for item in told
        )
        for reports in report_lists(count, setup.cap)
    )


def own_kept(setup, who, number, form):
    for name, modulus, rest, always in setup.samples:
        if name == who:
            return number % modulus == rest or form in always
    raise AssertionError(who)


def row_fits(setup, forms, item):
    """Whether an item about rows is true of rows with these forms."""
    who = item[1]
    keeping = [number for number, form in enumerate(forms) if own_kept(setup, who, number, form)]
    if item[0] == "rows":
        return item[3] == tuple(keeping)
    return item[3] in keeping and forms[item[3]] == item[4]


def rows_fit(setup, items, who, tick, counts):
    """Whether some rows with these counts of the streams fit the items about who and tick."""
    told = [item for item in items if item[0] in ("row", "rows") and item[1:3] == (who, tick)]
    return not told or any(all(row_fits(setup, forms, item) for item in told) for forms in row_lists(counts))


class Happenings:
    """Which runs of a small setup fit items, by listing; remembers what it has listed."""

    def __init__(self, setup):
        self.setup = setup
        self.known = {}

    def fits(self, items, run):
        world = self.setup.world
        names = [stream[0] for stream in world.streams]
        for item in items:
            if item[0] == "total" and not item[2] <= own_value(world, run, item[1]) <= item[3]:
                return False
        for tick in range(world.ticks):
            counts = {name: run[k][tick] for k, name in enumerate(names)}
            here = tuple(item for item in items if item[0] != "total" and item[2] == tick)
            key = (here, tuple(counts.values()))
            if key not in self.known:
                self.known[key] = self.fits_at(here, tick, counts)
            if not self.known[key]:
                return False
        return True

    def fits_at(self, items, tick, counts):
        for name, count in counts.items():
            if not reports_fit(self.setup, items, name, tick, count):
                return False
        for who, _, _, _ in self.setup.samples:
            of_who = {name: counts[name] for name in members_of(self.setup.world, who)}
            if not rows_fit(self.setup, items, who, tick, of_who):
                return False
        return True


def true_items(draw, setup, run):
    """All items that tell what happened in a run, with drawn reports and rows."""
    world = setup.world
    found = []
    for tick in range(world.ticks):
        counts = {stream[0]: run[k][tick] for k, stream in enumerate(world.streams)}
        for name, count in counts.items():
            reports = draw.choice(report_lists(count, setup.cap))
            found += [("count", name, tick, serial, events) for serial, events in enumerate(reports)]
            found.append(("close", name, tick, len(reports)))
        for who, _, _, _ in setup.samples:
            forms = draw.choice(row_lists({name: counts[name] for name in members_of(world, who)}))
            keeping = [number for number, form in enumerate(forms) if own_kept(setup, who, number, form)]
            found += [("row", who, tick, number, forms[number]) for number in keeping]
            found.append(("rows", who, tick, tuple(keeping)))
    return found


def drawn_item(draw, setup):
    """An item that passes the checks, and may be true or not."""
    world = setup.world
    tick = draw.randrange(world.ticks)
    stream = draw.choice([name for name, _, _ in world.streams])
    word = draw.choice(["count", "close", "total", "row", "rows", "rows"])
    if word == "count":
        return (word, stream, tick, draw.randint(0, 2), draw.randint(1, setup.cap))
    if word == "close":
        return (word, stream, tick, draw.randint(0, 3))
    if word == "total":
        who = draw.choice([stream, "all"])
        least = draw.randint(0, 3)
        level = draw.randint(0, 1)
        return (word, (who, level, tick if level == 0 else 0), least, least + draw.randint(0, 3))
    who = draw.choice(setup.samples)[0]
    if word == "row":
        return (word, who, tick, draw.randint(0, 4), draw.choice(members_of(world, who)))
    return (word, who, tick, tuple(sorted(draw.sample(range(5), draw.randint(0, 3)))))


def drawn_items(draw, setup, run, share, wrong):
    """Items of which a share of those of a run came, some twice, in any order, and some wrong ones."""
    items = [item for item in true_items(draw, setup, run) if draw.random() < share]
    items += [item for item in items if draw.random() < 0.2]
    items += [drawn_item(draw, setup) for _ in range(wrong)]
    draw.shuffle(items)
    return items
