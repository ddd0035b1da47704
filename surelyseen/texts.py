"""Texts of lines, of which some are skipped and the others mean something."""

from surelyseen.errors import BadLine


def meanings(text, meaning):
    """What the lines mean, in their order; meaning(line) tells it, or None if a line means nothing."""
    lines = text.split("\n")
    last = lines.pop()
    found = []
    for place, line in enumerate(lines):
        if line and not line.startswith("#"):
            told = meaning(line)
            if told is None:
                raise BadLine(place + 1)
            found.append(told)
    if last:
        raise BadLine(len(lines) + 1)
    return found
