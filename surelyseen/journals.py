"""Journals: texts of lines, each the written form of an item."""

from surelyseen.items import item_in, written_item
from surelyseen.texts import meanings


def written_journal(items):
    """The journal with one line for each item."""
    return "".join([written_item(item) + "\n" for item in items])


def read_journal(text):
    """The items of a journal, without knowing the setup."""
    return meanings(text, item_in)
