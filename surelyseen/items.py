"""The written form of an item."""

from surelyseen.errors import BadText
from surelyseen.names import is_name, is_number
from surelyseen.written import is_who, sum_in, written_sum

MOST_DIGITS = 9
SHAPES = {
    "count": ("stream", "number", "number", "number"),
    "close": ("stream", "number", "number"),
    "total": ("sum", "number", "number"),
    "row": ("who", "number", "number", "stream"),
    "rows": ("who", "number"),
}


def written_item(item):
    """The line that is the written form of an item."""
    if item[0] == "total":
        return f"total {written_sum(item[1])} {item[2]} {item[3]}"
    parts = list(item)
    if item[0] == "rows":
        parts = list(item[:3]) + list(item[3])
    return " ".join([str(part) for part in parts])


def read_item(line):
    """The item with this written form, without knowing the setup."""
    item = item_in(line)
    if item is None:
        raise BadText(line)
    return item


def item_in(line):
    """The item with this written form, or None if it is none."""
    words = line.split(" ")
    word = words[0]
    shape = SHAPES.get(word)
    if shape is None:
        return None
    parts = words[1:]
    more = max(len(parts) - len(shape), 0) if word == "rows" else 0
    kinds = shape + ("number",) * more
    if len(parts) != len(kinds):
        return None
    found = [_part_in(part, kind) for part, kind in zip(parts, kinds)]
    if None in found:
        return None
    if word == "rows":
        return ("rows", found[0], found[1], tuple(found[2:]))
    return (word,) + tuple(found)


def in_written_order(items):
    """The different items of a list, sorted by their written forms."""
    return sorted(list({item: True for item in items}), key=written_item)


def _part_in(text, kind):
    """The name, number or sum that a part of a line means, or None if it is not of its kind."""
    if kind == "sum":
        return sum_in(text)
    if kind == "number":
        return int(text) if is_number(text, MOST_DIGITS) else None
    if kind == "who":
        return text if is_who(text) else None
    return text if is_name(text) else None
