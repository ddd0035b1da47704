"""Sampled rows: which of them are kept, and what the kept ones tell of all."""

from surelyseen.errors import BadItem, BadSetup
from surelyseen.setups import check_item, check_items
from surelyseen.world import check_sum, group_with, streams_of

IMPOSSIBLE = (1, 0)


def kept(setup, who, number, stream):
    """Whether a row with this number and form is kept."""
    _check_who(setup, who)
    modulus, rest, always = setup.rules[who]
    return number % modulus == rest or stream in always


def rows_between(setup, items, who, tick):
    """The least and the greatest number of rows that the items about the rows tell, None where there is no bound."""
    _check_asked(setup, items, who, tick)
    rows, lists = _came(items, who, tick)
    return _between(setup, who, rows, lists)


def missing_rows(setup, items, who, tick):
    """The numbers of kept rows that did not come, ascending."""
    _check_asked(setup, items, who, tick)
    rows, lists = _came(items, who, tick)
    return _missing(rows, lists[0]) if lists else []


def sampled(setup, who, tick, forms):
    """The items about the rows of who at a tick if they have these forms."""
    check_sum(setup.world, (who, 0, tick))
    if who not in setup.rules:
        raise BadItem(("rows", who, tick, ()))
    streams = streams_of(setup.world, who)
    found = []
    numbers = []
    for number, stream in enumerate(forms):
        item = ("row", who, tick, number, stream)
        if stream not in streams:
            raise BadItem(item)
        if kept(setup, who, number, stream):
            check_item(setup, item)
            found.append(item)
            numbers.append(number)
    last = ("rows", who, tick, tuple(numbers))
    check_item(setup, last)
    return found + [last]


def row_demands(setup, items, who, tick):
    """The triples (sum, least, greatest) that the items about the rows of who at a tick demand."""
    rows, lists = _came(items, who, tick)
    least, greatest = _between(setup, who, rows, lists)
    found = [((who, 0, tick), least, greatest)]
    if not _is_possible(setup, who, rows, lists):
        return found
    for stream in streams_of(setup.world, who):
        found.append(((stream, 0, tick), len([form for _, form in rows if form == stream]), None))
    always = setup.rules[who][2]
    if lists and 0 < len(always) < len(streams_of(setup.world, who)):
        found.append(_always_demand(setup, who, tick, rows, lists[0]))
    return found


def _check_who(setup, who):
    if who not in setup.rules:
        raise BadSetup("there is no sample rule for who")


def _check_asked(setup, items, who, tick):
    check_items(setup, items)
    _check_who(setup, who)
    check_sum(setup.world, (who, 0, tick))


def _came(items, who, tick):
    """The different pairs (number, form) and the different lists of numbers, in the order in which they came."""
    rows = {}
    lists = {}
    for item in items:
        if item[1:3] == (who, tick):
            if item[0] == "row":
                rows[(item[3], item[4])] = True
            if item[0] == "rows":
                lists[item[3]] = True
    return list(rows), list(lists)


def _is_possible(setup, who, rows, lists):
    """Whether rows can exist of which these came."""
    if len(lists) > 1 or len(set([number for number, _ in rows])) != len(rows):
        return False
    for number, form in rows:
        if not kept(setup, who, number, form):
            return False
        if lists and number not in lists[0]:
            return False
    modulus, rest, always = setup.rules[who]
    if lists and not always:
        return all([number % modulus == rest for number in lists[0]])
    return True


def _between(setup, who, rows, lists):
    """What the items tell of the number of rows; if a list came, the first row that it must have and has not."""
    if not _is_possible(setup, who, rows, lists):
        return IMPOSSIBLE
    if not lists:
        return (max([number + 1 for number, _ in rows], default=0), None)
    numbers = lists[0]
    least = max([number + 1 for number in numbers], default=0)
    modulus, rest, always = setup.rules[who]
    greatest = rest
    while greatest in numbers:
        greatest += modulus
    if len(always) == len(streams_of(setup.world, who)):
        return (max(least, len(numbers)), min(greatest, len(numbers)))
    return (least, greatest)


def _missing(rows, numbers):
    came = {number: True for number, _ in rows}
    return [number for number in numbers if number not in came]


def _always_demand(setup, who, tick, rows, numbers):
    """How many rows had forms that are always kept: others are kept by their number alone."""
    modulus, rest, always = setup.rules[who]
    missing = _missing(rows, numbers)
    free = len([number for number in missing if number % modulus == rest])
    least = len([form for _, form in rows if form in always]) + len(missing) - free
    name = always[0] if len(always) == 1 else group_with(setup.world, always)
    return ((name, 0, tick), least, least + free)
