"""Questions: whether they are as they must be, and whether they hold in a table."""

from surelyseen.errors import BadForm
from surelyseen.world import check_sum, sum_value

MOST_NUMBER = 999999999
JOINING = ("and", "or")
OVER_WINDOWS = ("some", "every", "row", "first")


def check_question(world, question):
    """Raise BadForm or NoSuchSum unless the question and each of its parts can be asked in the world."""
    if not _is_sound(question):
        raise BadForm(question)
    if question[0] == "is":
        check_sum(world, question[1])
    if question[0] in OVER_WINDOWS:
        who, level, start, stop = span_of(question)
        for window in range(start, stop + 1):
            check_sum(world, (who, level, window))
    for part in parts_of(question):
        check_question(world, part)


def holds(world, table, question):
    """Whether the question holds in a table."""
    check_question(world, question)
    return _holds(world, table, question)


def span_of(question):
    """Who, level, start and stop of a question over windows."""
    return question[1:5] if question[0] in ("some", "every") else question[2:6]


def bound_of(question):
    """The sign and the number with which a question compares sums."""
    if question[0] == "is":
        return question[2:4]
    return question[5:7] if question[0] in ("some", "every") else question[6:8]


def parts_of(question):
    """The parts of which a question consists; none, if it asks for sums itself."""
    if question[0] == "not":
        return [question[1]]
    return list(question[1]) if question[0] in JOINING else []


def _is_sound(question):
    """Whether the tuple itself, apart from its parts and from its sums, is as it must be."""
    word = question[0]
    if word == "not":
        return True
    if word in JOINING:
        return len(question[1]) >= 2
    sign, number = bound_of(question)
    if not 0 <= number <= MOST_NUMBER:
        return False
    if word == "is":
        return True
    _, _, start, stop = span_of(question)
    if not 0 <= start <= stop:
        return False
    if word in ("some", "every"):
        return True
    if question[1] < 1 or sign == "=":
        return False
    return word == "row" or start <= question[8] <= stop


def _holds(world, table, question):
    word = question[0]
    if word in JOINING or word == "not":
        verdicts = [_holds(world, table, part) for part in parts_of(question)]
        if word == "not":
            return not verdicts[0]
        return all(verdicts) if word == "and" else any(verdicts)
    sign, number = bound_of(question)
    if word == "is":
        return _compares(sum_value(world, table, question[1]), sign, number)
    who, level, start, stop = span_of(question)
    marks = []
    for window in range(start, stop + 1):
        marks.append(_compares(sum_value(world, table, (who, level, window)), sign, number))
    if word in ("some", "every"):
        return any(marks) if word == "some" else all(marks)
    completed = _row_completed(marks, question[1])
    if completed is None:
        return False
    return word == "row" or start + completed == question[8]


def _compares(value, sign, number):
    if sign == ">=":
        return value >= number
    return value <= number if sign == "<=" else value == number


def _row_completed(marks, length):
    """The first place at which so many marks in a row are True, or None."""
    many = 0
    for place, mark in enumerate(marks):
        many = many + 1 if mark else 0
        if many == length:
            return place
    return None
