"""Written lines for the tests: items and deeds, drawn ones, changed ones, and patterns that they follow."""

import re

from asking import NAME, NUMBER, SHORT, WHO, Grammar, own_tokens

SUM = rf"{WHO}\.{SHORT}\.{SHORT}"
LINES = [
    rf"count {NAME} {NUMBER} {NUMBER} {NUMBER}", rf"close {NAME} {NUMBER} {NUMBER}", rf"total {SUM} {NUMBER} {NUMBER}",
    rf"row {WHO} {NUMBER} {NUMBER} {NAME}", rf"rows {WHO} {NUMBER}(?: {NUMBER})*",
]


def own_reads(line):
    """Whether a line is the written form of an item, by patterns."""
    return any(re.fullmatch(pattern, line) for pattern in LINES)


def drawn_item(draw):
    word = draw.choice(["count", "close", "total", "row", "rows"])
    name = draw.choice(["a", "web", "x9", "rows", "count", "abcdefghijkl"])
    who = draw.choice([name, "all"])
    numbers = [draw.choice([0, 1, 9, 10, 99, 12345678, 123456789, 999999999]) for _ in range(3)]
    if word == "count":
        return (word, name, *numbers)
    if word == "close":
        return (word, name, *numbers[:2])
    if word == "total":
        return (word, (who, draw.choice([0, 1, 9999]), draw.choice([0, 15, 1000])), *numbers[:2])
    if word == "row":
        return (word, who, *numbers[:2], name)
    return (word, who, numbers[0], tuple(draw.choices(numbers, k=draw.randint(0, 6))))


def changed(draw, text, signs):
    """The text with one sign left out, put in, changed, or two exchanged."""
    place = draw.randrange(len(text) + 1)
    way = draw.randint(0, 3)
    if way == 0:
        return text[:place] + text[place + 1:]
    if way == 1:
        return text[:place] + draw.choice(signs) + text[place:]
    if way == 2:
        return text[:place] + draw.choice(signs) + text[place + 1:]
    return text[:place] + text[place:place + 2][::-1] + text[place + 2:]


def own_bad_line(text, reads):
    """The number of the first line that is none, if `reads` tells of a line whether it is one; or None."""
    if not text:
        return None
    lines = text.split("\n")
    for number, line in enumerate(lines[:-1], start=1):
        if line and line[0] != "#" and not reads(line):
            return number
    return len(lines) if lines[-1] else None


def own_reads_deed(line):
    """Whether a line is the written form of a deed."""
    if line.startswith("take "):
        return own_reads(line[5:])
    if re.fullmatch(rf"promise {SUM}|forget(?: {SUM})*", line):
        return True
    watching = re.match(rf"watch {NAME} (?! )", line)
    return watching is not None and Grammar(own_tokens(line[watching.end():])).place() is None
