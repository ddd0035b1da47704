"""The written form of a sum."""

from surelyseen.errors import BadText
from surelyseen.names import is_name, is_number

MOST_DIGITS = 4


def written_sum(asked):
    """The written form of a sum: who, level and index, joined by dots."""
    who, level, index = asked
    return f"{who}.{level}.{index}"


def read_sum(text):
    """The sum with this written form, without knowing the world."""
    parts = text.split(".")
    if len(parts) != 3:
        raise BadText(text)
    who, level, index = parts
    if who != "all" and not is_name(who):
        raise BadText(text)
    if not is_number(level, MOST_DIGITS) or not is_number(index, MOST_DIGITS):
        raise BadText(text)
    return (who, int(level), int(index))
