"""What gathered items say of what happened."""

from surelyseen.boxes import Box, narrowed_by
from surelyseen.samples import row_demands
from surelyseen.setups import check_item, check_items

IMPOSSIBLE = (1, 0)


def box_of(setup, items):
    """The box that the items say: a run fits it exactly if it fits the items."""
    check_items(setup, items)
    demands = [item[1:] for item in items if item[0] == "total"]
    cells = _by_place(items, ("count", "close"))
    for stream, tick in cells:
        least, greatest = _count_between(setup, cells[(stream, tick)])
        demands.append(((stream, 0, tick), least, greatest))
    rows = _by_place(items, ("row", "rows"))
    for who, tick in rows:
        demands.extend(row_demands(setup, rows[(who, tick)], who, tick))
    return narrowed_by(Box(setup.world), demands)


def reported(setup, stream, tick, events):
    """The items that are sent about a tick if its reports tell these numbers of events."""
    found = []
    for serial, many in enumerate(events):
        item = ("count", stream, tick, serial, many)
        check_item(setup, item)
        found.append(item)
    last = ("close", stream, tick, len(events))
    check_item(setup, last)
    return found + [last]


def _by_place(items, words):
    """The items with one of the words, for each pair (who, tick) that they are about."""
    found = {}
    for item in items:
        if item[0] in words:
            found.setdefault(item[1:3], []).append(item)
    return found


def _count_between(setup, items):
    """What the reports of one cell tell of its count; None where there is no bound."""
    counts = list({item[3:]: True for item in items if item[0] == "count"})
    closes = list({item[3]: True for item in items if item[0] == "close"})
    came = len(counts)
    known = sum([events for _, events in counts])
    reports = max([serial + 1 for serial, _ in counts], default=0)
    if len(set([serial for serial, _ in counts])) != came or len(closes) > 1:
        return IMPOSSIBLE
    if not closes:
        return (known + reports - came, None)
    if closes[0] < reports:
        return IMPOSSIBLE
    unknown = closes[0] - came
    return (known + unknown, known + setup.cap * unknown)
