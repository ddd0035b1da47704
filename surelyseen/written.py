"""The written form of a sum."""

from surelyseen.errors import BadText
from surelyseen.names import is_name, is_number

MOST_DIGITS = 4


def written_sum(asked):
    """The written form of a sum: who, level and index, joined by dots."""
    who, level, index = asked
    return f"{who}.{level}.{index}"


def read_sum(text):
    """The sum with this written form, without knowing the world."""
    asked = sum_in(text)
    if asked is None:
        raise BadText(text)
    return asked


def sum_in(text):
    """The sum with this written form, or None if it is none."""
    parts = text.split(".")
    if len(parts) != 3:
        return None
    who, level, index = parts
    if not is_who(who) or not is_number(level, MOST_DIGITS) or not is_number(index, MOST_DIGITS):
        return None
    return (who, int(level), int(index))


def is_who(text):
    """Whether a text can stand for a stream, a group or all."""
    return text == "all" or is_name(text)
