"""Lines: one stream watched live, as a machine with hidden states."""

from surelyseen.errors import BadMachine
from surelyseen.machines import Machine

MOST_HIGH = 3
MOST_ROW = 4
LEAST_FOLD = 2
MOST_FOLD = 4
BEGINNING = (0, None, 0, 0)


class Line:
    """A line; its letters are the numbers of its triples (now, before, total)."""

    def __init__(self, high, *, limit=1, row=1, fold=0, late=False):
        self.high = high
        self.limit = limit
        self.row = row
        self.fold = fold
        self.late = late
        if not 1 <= limit <= high <= MOST_HIGH:
            raise BadMachine("a line has 1 <= limit <= high <= 3")
        if not 1 <= row <= MOST_ROW:
            raise BadMachine("a line has a row of 1 to 4 ticks")
        if fold != 0 and (late or not LEAST_FOLD <= fold <= MOST_FOLD):
            raise BadMachine("a line has no fold, or one of 2 to 4 ticks and nothing that comes late")
        counts = list(range(high + 1))
        nows = [None] + counts
        befores = nows if late else [None]
        totals = [None] + list(range(high * fold + 1)) if fold != 0 else [None]
        self.triples = tuple([(now, before, total) for now in nows for before in befores for total in totals])


def line_machine(line):
    """A machine that knows what is so in all runs of the stream that fit what was seen.

    A hidden state is a tuple (ticks since the window began, count of the tick before, total since the window began,
    length of the row that goes on), each entry only as far as the line needs it. The matter holds when the row is long
    enough, and then for ever.
    """
    numbers = {BEGINNING: 0}
    states = [BEGINNING]
    moves = {}
    place = 0
    while place < len(states):
        for count in range(line.high + 1):
            after = _state_after(line, states[place], count)
            if after not in numbers:
                numbers[after] = len(states)
                states.append(after)
            for letter in _letters_showing(line, states[place], count):
                moves[(place, letter, numbers[after])] = True
        place += 1
    matter = [number for number, state in enumerate(states) if state[3] == line.row]
    return Machine(len(states), len(line.triples), [0], list(moves), matter)


def seen(line, counts, shown):
    """The course for counts of which, where they can, those entries come that are shown."""
    if len(counts) != len(shown):
        raise BadMachine("there is one count and one triple for each tick")
    course = []
    for tick, (count, coming) in enumerate(zip(counts, shown)):
        if not 0 <= count <= line.high:
            raise BadMachine("a count is from 0 to the line's high")
        now, before, total = coming
        came = (
            count if now else None,
            counts[tick - 1] if before and line.late and tick > 0 else None,
            sum(counts[tick - line.fold + 1:tick + 1]) if total and _ends_window(line, tick) else None,
        )
        course.append(line.triples.index(came))
    return course


def course_items(line, stream, course):
    """The items that say of a stream what a course says."""
    found = []
    for tick, letter in enumerate(course):
        if not 0 <= letter < len(line.triples):
            raise BadMachine("the line does not have the letter")
        now, before, total = line.triples[letter]
        if (tick == 0 and before is not None) or (total is not None and not _ends_window(line, tick)):
            raise BadMachine("the letter cannot be seen at its tick")
        found.extend(_count_items(stream, tick, now))
        found.extend(_count_items(stream, tick - 1, before))
        if total is not None:
            found.append(("total", (stream, 1, tick // line.fold), total, total))
    return found


def _ends_window(line, tick):
    return line.fold != 0 and (tick + 1) % line.fold == 0


def _count_items(stream, tick, count):
    if count is None:
        return []
    if count == 0:
        return [("close", stream, tick, 0)]
    return [("count", stream, tick, 0, count), ("close", stream, tick, 1)]


def _state_after(line, state, count):
    """The hidden state after a tick with a count."""
    since, _, total, length = state
    if length < line.row:
        length = length + 1 if count >= line.limit else 0
    if line.fold != 0:
        since = (since + 1) % line.fold
        total = total + count if since != 0 else 0
    return (since, count if line.late else None, total, length)


def _letters_showing(line, state, count):
    """The letters that can be seen at a tick with a count, in a hidden state before it."""
    since, last, total, _ = state
    befores = [None] if last is None else [None, last]
    totals = [None, total + count] if line.fold != 0 and since == line.fold - 1 else [None]
    return [
        letter for letter, (now, before, whole) in enumerate(line.triples)
        if now in (None, count) and before in befores and whole in totals
    ]
