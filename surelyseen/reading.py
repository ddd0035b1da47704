"""Written questions: reading and writing them."""

from surelyseen.errors import BadQuestion
from surelyseen.names import is_number
from surelyseen.questions import bound_of, parts_of, span_of
from surelyseen.written import MOST_DIGITS, is_who, sum_in, written_sum

MOST_NUMBER_DIGITS = 9
SIGNS = (">=", "<=", "=")
IS_SHAPE = ("sum", "sign", "number")
SHAPES = {
    "some": ("series", "from", "start", "to", "stop", "sign", "number"),
    "every": ("series", "from", "start", "to", "stop", "sign", "number"),
    "row": ("length", "series", "from", "start", "to", "stop", "order", "number"),
    "first": ("length", "series", "from", "start", "to", "stop", "order", "number", "at", "completed"),
}
LOOSER = {"not": ("and", "or"), "and": ("and", "or"), "or": ("or",)}


class Opened:
    """A question that is being read.

    terms: the terms that are complete.
    factors: the factors of the term that is not.
    nots: how many times `not` stands before the factor that comes next.
    """

    def __init__(self):
        self.terms = []
        self.factors = []
        self.nots = 0

    def deny(self):
        """One more `not` stands before the factor that comes next."""
        self.nots += 1

    def take(self, factor):
        """Take the next factor."""
        for _ in range(self.nots):
            factor = ("not", factor)
        self.nots = 0
        self.factors.append(factor)

    def end_term(self):
        """The term is complete."""
        self.terms.append(_joined("and", self.factors))
        self.factors = []

    def closed(self):
        """The question, which is complete."""
        self.end_term()
        return _joined("or", self.terms)


def read_question(text):
    """The question that a text tells, or BadQuestion with the place of the first token that cannot stand there."""
    tokens = _tokens(text)
    opened = [Opened()]
    before_factor = True
    place = 0
    while place < len(tokens):
        if not before_factor:
            before_factor = _go_on(opened, tokens[place], place)
            place += 1
        elif tokens[place] == "not":
            opened[-1].deny()
            place += 1
        elif tokens[place] == "(":
            opened.append(Opened())
            place += 1
        else:
            factor, place = _read_line(tokens, place)
            opened[-1].take(factor)
            before_factor = False
    if before_factor or len(opened) > 1:
        raise BadQuestion(len(tokens))
    return opened[0].closed()


def written_question(question):
    """The text that tells a question."""
    word = question[0]
    if word in LOOSER:
        parts = [_written_part(part, LOOSER[word]) for part in parts_of(question)]
        if word == "not":
            return f"not {parts[0]}"
        return " and ".join(parts) if word == "and" else " or ".join(parts)
    sign, number = bound_of(question)
    if word == "is":
        return f"{written_sum(question[1])} {sign} {number}"
    who, level, start, stop = span_of(question)
    text = f"{who}.{level} from {start} to {stop} {sign} {number}"
    if word in ("some", "every"):
        return f"{word} {text}"
    text = f"{word} {question[1]} {text}"
    return text if word == "row" else f"{text} at {question[8]}"


def _written_part(part, looser):
    text = written_question(part)
    return f"({text})" if part[0] in looser else text


def _joined(word, parts):
    return parts[0] if len(parts) == 1 else (word, tuple(parts))


def _tokens(text):
    """The parentheses and the words of a text; a newline is a character of a word."""
    spaced = text.replace("(", " ( ").replace(")", " ) ")
    return [token for token in spaced.split(" ") if token]


def _go_on(opened, token, place):
    """Read what stands behind a factor; whether another factor must follow."""
    if token == "and":
        return True
    if token == "or":
        opened[-1].end_term()
        return True
    if token != ")" or len(opened) == 1:
        raise BadQuestion(place)
    inner = opened.pop()
    opened[-1].take(inner.closed())
    return False


def _read_line(tokens, place):
    """The question that consists of one line of the grammar, and the place behind it."""
    word = tokens[place]
    shape = SHAPES.get(word, IS_SHAPE)
    if word in SHAPES:
        place += 1
    found = {}
    for kind in shape:
        meaning = _meaning(tokens[place], kind, found) if place < len(tokens) else None
        if meaning is None:
            raise BadQuestion(place)
        found[kind] = meaning
        place += 1
    if word not in SHAPES:
        return ("is", found["sum"], found["sign"], found["number"]), place
    span = found["series"] + (found["start"], found["stop"])
    if word in ("some", "every"):
        return (word,) + span + (found["sign"], found["number"]), place
    row = (word, found["length"]) + span + (found["order"], found["number"])
    return (row if word == "row" else row + (found["completed"],)), place


def _meaning(token, kind, found):
    """What a token means where this kind of word must stand, or None if it cannot stand there."""
    if kind in ("from", "to", "at"):
        return token if token == kind else None
    if kind == "sum":
        return sum_in(token)
    if kind == "series":
        return _series_in(token)
    if kind in ("sign", "order"):
        return token if token in SIGNS and (kind == "sign" or token != "=") else None
    if not is_number(token, MOST_NUMBER_DIGITS):
        return None
    number = int(token)
    if kind == "length" and number < 1:
        return None
    if kind == "stop" and number < found["start"]:
        return None
    if kind == "completed" and not found["start"] <= number <= found["stop"]:
        return None
    return number


def _series_in(token):
    """Who and level of a row of windows, or None."""
    parts = token.split(".")
    if len(parts) != 2 or not is_who(parts[0]) or not is_number(parts[1], MOST_DIGITS):
        return None
    return (parts[0], int(parts[1]))
