"""Questions for the tests: drawn ones, whether they hold, their cases, and a reader that follows the grammar."""

import itertools
import re

from helpers import own_sums, own_value

OVER_WINDOWS = ("some", "every", "row", "first")
RESERVED = "all|and|or|not|some|every|row|first|from|to|at|in"
NAME = rf"(?!(?:{RESERVED})(?![a-z0-9]))[a-z][a-z0-9]{{0,11}}"
WHO = rf"(?:all(?![a-z0-9])|{NAME})"
SHORT = r"(?:0|[1-9][0-9]{0,3})"
NUMBER = r"(?:0|[1-9][0-9]{0,8})"


def compares(value, sign, number):
    return {">=": value >= number, "<=": value <= number, "=": value == number}[sign]


def own_holds(world, table, question):
    word = question[0]
    if word == "not":
        return not own_holds(world, table, question[1])
    if word == "and":
        return all(own_holds(world, table, part) for part in question[1])
    if word == "or":
        return any(own_holds(world, table, part) for part in question[1])
    if word == "is":
        return compares(own_value(world, table, question[1]), *question[2:])
    if word in ("some", "every"):
        who, level, start, stop, sign, number = question[1:]
        marks = [compares(own_value(world, table, (who, level, k)), sign, number) for k in range(start, stop + 1)]
        return any(marks) if word == "some" else all(marks)
    length, who, level, start, stop, sign, number = question[1:8]
    ends = [
        end for end in range(start, stop + 1) if end - length + 1 >= start and
        all(compares(own_value(world, table, (who, level, k)), sign, number) for k in range(end - length + 1, end + 1))
    ]
    return bool(ends) if word == "row" else bool(ends) and min(ends) == question[8]


def own_meeting_sets(start, stop, length):
    """All least meeting sets, by going through all sets of windows."""
    windows = range(start, stop + 1)
    stretches = [set(range(k, k + length)) for k in windows if k + length - 1 <= stop]
    meeting = [
        set(some) for many in range(len(windows) + 1) for some in itertools.combinations(windows, many)
        if all(stretch & set(some) for stretch in stretches)
    ]
    return sorted(sorted(one) for one in meeting if not any(other < one for other in meeting))


def own_cases(question, holding):
    """The cases of a question, as point 52 tells them."""
    word = question[0]
    if word == "not":
        return own_cases(question[1], not holding)
    if word == "is":
        return one_sum(question[1], *question[2:], holding)
    if word in ("some", "every"):
        who, level, start, stop, sign, number = question[1:]
        parts = tuple(("is", (who, level, k), sign, number) for k in range(start, stop + 1))
        return own_cases(("or" if word == "some" else "and", parts), holding)
    if word in ("and", "or"):
        lists = [own_cases(part, holding) for part in question[1]]
        if (word == "or") == holding:
            return sum(lists, [])
        return [sum(choice, []) for choice in itertools.product(*lists)]
    return own_row_cases(question, holding) if word == "row" else own_first_cases(question, holding)


def one_sum(asked, sign, number, holding):
    below, above = (asked, None, number - 1), (asked, number + 1, None)
    if holding:
        return [[{">=": (asked, number, None), "<=": (asked, None, number), "=": (asked, number, number)}[sign]]]
    return {">=": [[below]], "<=": [[above]], "=": [[below], [above]]}[sign]


def window_demands(question, windows, holding):
    who, level = question[2:4]
    sign, number = question[6:8]
    return [one_sum((who, level, k), sign, number, holding)[0][0] for k in windows]


def own_row_cases(question, holding):
    length, _, _, start, stop = question[1:6]
    if holding:
        return [window_demands(question, range(k, k + length), True) for k in range(start, stop + 1) if k + length - 1 <= stop]
    return [window_demands(question, one, False) for one in own_meeting_sets(start, stop, length)]


def own_first_cases(question, holding):
    length, _, _, start, _ = question[1:6]
    at = question[8]
    if at - length + 1 < start:
        return [] if holding else [[]]
    row = list(range(at - length + 1, at + 1))
    if holding:
        before = [at - length] if at - length >= start else []
        return [
            window_demands(question, one, False) + window_demands(question, before, False) + window_demands(question, row, True)
            for one in own_meeting_sets(start, at - length - 1, length)
        ]
    found = [window_demands(question, [k], False) for k in row]
    return found + [window_demands(question, range(k, k + length), True) for k in range(start, at) if k + length - 1 <= at - 1]


def meets(world, table, demands):
    """Whether a table meets a case."""
    return all(
        (least is None or own_value(world, table, asked) >= least) and (greatest is None or own_value(world, table, asked) <= greatest)
        for asked, least, greatest in demands
    )


def spans(world):
    """All pairs (who, level) with the number of their windows."""
    found = {}
    for who, level, index in own_sums(world):
        found[who, level] = index + 1
    return sorted(found.items())


def drawn_line(draw, world, most):
    """A question that asks for sums itself."""
    word = draw.choice(["is", "is", "some", "every", "row", "row", "first", "first"])
    number = draw.randint(0, most)
    if word == "is":
        return ("is", draw.choice(own_sums(world)), draw.choice([">=", "<=", "="]), number)
    (who, level), windows = draw.choice([entry for entry in spans(world) if entry[1] > 1 or draw.random() < 0.1] or spans(world))
    start = draw.randrange(windows)
    start = draw.choice([start, 0])
    stop = draw.randint(start, windows - 1)
    if word in ("some", "every"):
        return (word, who, level, start, stop, draw.choice([">=", "<=", "="]), number)
    length = draw.choice([1, 1, 2, 2, 3, stop - start + 1, stop - start + 2, 999999999])
    row = (word, length, who, level, start, stop, draw.choice([">=", "<="]), number)
    return row if word == "row" else row + (draw.randint(start, stop),)


def drawn_question(draw, world, tuples, most=3, line=None):
    """A question of at most so many tuples."""
    line = line or drawn_line
    if tuples < 2 or draw.random() < 0.1:
        return line(draw, world, most)
    if tuples == 2 or draw.random() < 0.25:
        return ("not", drawn_question(draw, world, tuples - 1, most, line))
    parts = draw.randint(2, min(4, tuples - 1))
    shares = [1 + (tuples - 1 - parts) // parts] * parts
    return (draw.choice(["and", "or"]), tuple(drawn_question(draw, world, share, most, line) for share in shares))


def tuples_of(question):
    """The question and its parts, each before its own parts."""
    if question[0] == "not":
        return [question] + tuples_of(question[1])
    if question[0] in ("and", "or"):
        return [question] + [one for part in question[1] for one in tuples_of(part)]
    return [question]


def own_tokens(text):
    return re.findall(r"[()]|[^ ()]+", text)


class Grammar:
    """Follows the grammar of point 57 through tokens in every way, and notes how far it came."""

    def __init__(self, tokens):
        self.tokens = tokens
        self.farthest = 0

    def place(self):
        """None if the tokens are a written question, else the place that is to be told."""
        if any(self.here(end, None) for end in self.question(0)):
            return None
        return self.farthest

    def here(self, place, pattern):
        """Whether the token at a place matches; None stands for the end."""
        self.farthest = max(self.farthest, place)
        if place == len(self.tokens):
            return pattern is None
        return pattern is not None and re.fullmatch(pattern, self.tokens[place]) is not None

    def several(self, place, word, part):
        for end in part(place):
            yield end
            if self.here(end, word):
                yield from self.several(end + 1, word, part)

    def question(self, place):
        yield from self.several(place, "or", self.term)

    def term(self, place):
        yield from self.several(place, "and", self.factor)

    def factor(self, place):
        if self.here(place, "not"):
            yield from self.factor(place + 1)
        if self.here(place, r"\("):
            for end in self.question(place + 1):
                if self.here(end, r"\)"):
                    yield end + 1
        yield from self.line(place)

    def line(self, place):
        series = [rf"{WHO}\.{SHORT}", "from", NUMBER, "to", self.least_end]
        shapes = [[rf"{WHO}\.{SHORT}\.{SHORT}", ">=|<=|=", NUMBER]]
        shapes += [[word] + series + [">=|<=|=", NUMBER] for word in ("some", "every")]
        row = [r"[1-9][0-9]{0,8}"] + series + [">=|<=", NUMBER]
        shapes += [["row"] + row, ["first"] + row + ["at", self.between]]
        for shape in shapes:
            end = place
            for pattern in shape:
                if not isinstance(pattern, str):
                    passed = self.here(end, NUMBER) and pattern(place, int(self.tokens[end]))
                else:
                    passed = self.here(end, pattern)
                if not passed:
                    break
                end += 1
            else:
                yield end

    def ends(self, place):
        begin = self.tokens.index("from", place)
        return int(self.tokens[begin + 1]), int(self.tokens[begin + 3])

    def least_end(self, place, number):
        return number >= int(self.tokens[self.tokens.index("from", place) + 1])

    def between(self, place, number):
        start, stop = self.ends(place)
        return start <= number <= stop
