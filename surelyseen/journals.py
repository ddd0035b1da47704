"""Journals: texts of lines, each the written form of an item."""

from surelyseen.errors import BadLine
from surelyseen.items import item_in, written_item


def written_journal(items):
    """The journal with one line for each item."""
    return "".join([written_item(item) + "\n" for item in items])


def read_journal(text):
    """The items of a journal, without knowing the setup."""
    lines = text.split("\n")
    last = lines.pop()
    found = []
    for place, line in enumerate(lines):
        if line and not line.startswith("#"):
            item = item_in(line)
            if item is None:
                raise BadLine(place + 1)
            found.append(item)
    if last:
        raise BadLine(len(lines) + 1)
    return found
