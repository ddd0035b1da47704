"""The cases of a question: lists of demands, one of which a table meets exactly if the question holds (or does not)."""

from surelyseen.errors import TooManyCases
from surelyseen.meeting import meeting_count, meeting_sets
from surelyseen.questions import bound_of, check_question, parts_of, span_of

MOST_CASES = 64


def cases(world, question, *, holding):
    """The holding or the failing cases; each is a list of triples (sum, least, greatest)."""
    many = case_count(world, question, holding=holding)
    if many > MOST_CASES:
        raise TooManyCases(many)
    return _cases(question, holding)


def case_count(world, question, *, holding):
    """The number of holding or failing cases, however large it is."""
    check_question(world, question)
    return _count(question, holding)


def check_cases(world, question):
    """Raise what the check of the question raises, or TooManyCases if one of the two sides has too many."""
    many = max(case_count(world, question, holding=True), case_count(world, question, holding=False))
    if many > MOST_CASES:
        raise TooManyCases(many)


def _count(question, holding):
    word = question[0]
    if word == "not":
        return _count(question[1], not holding)
    if word == "is":
        return 2 if question[2] == "=" and not holding else 1
    if word == "row":
        return _row_count(question, holding)
    if word == "first":
        return _first_count(question, holding)
    counts = [_count(part, holding) for part in _joined(question)]
    if _is_choice(question, holding):
        return sum(counts)
    many = 1
    for count in counts:
        many = many * count
    return many


def _cases(question, holding):
    """The cases; where there are none, no part's are built, since a part alone may have any number of them."""
    if _count(question, holding) == 0:
        return []
    word = question[0]
    if word == "not":
        return _cases(question[1], not holding)
    if word == "is":
        return [[demand] for demand in _demands(question[1], bound_of(question), holding)]
    if word == "row":
        return _row_cases(question, holding)
    if word == "first":
        return _first_cases(question, holding)
    if _is_choice(question, holding):
        return [demands for part in _joined(question) for demands in _cases(part, holding)]
    found = [[]]
    for part in _joined(question):
        more = _cases(part, holding)
        found = [demands + others for demands in found for others in more]
    return found


def _joined(question):
    """The parts of an "and" or an "or"; a "some" or an "every" is as one of questions about a window each."""
    if question[0] in ("and", "or"):
        return parts_of(question)
    who, level, start, stop = span_of(question)
    return [("is", (who, level, window)) + bound_of(question) for window in range(start, stop + 1)]


def _is_choice(question, holding):
    """Whether each part's cases are cases of the whole, not only together with those of the others."""
    return (question[0] in ("or", "some")) == holding


def _demands(asked, bound, holding):
    """The demands, one of which a sum meets exactly if it compares so (or does not)."""
    sign, number = bound
    below = (asked, None, number - 1)
    above = (asked, number + 1, None)
    if sign == ">=":
        return [(asked, number, None)] if holding else [below]
    if sign == "<=":
        return [(asked, None, number)] if holding else [above]
    return [(asked, number, number)] if holding else [below, above]


def _row_count(question, holding):
    _, _, start, stop = span_of(question)
    windows = stop - start + 1
    if holding:
        return max(0, windows - question[1] + 1)
    return meeting_count(windows, question[1])


def _row_cases(question, holding):
    _, _, start, stop = span_of(question)
    length = question[1]
    if holding:
        return [_window_demands(question, k, k + length, True) for k in range(start, stop - length + 2)]
    sets = meeting_sets(start, stop - start + 1, length)
    return [_set_demands(question, windows) for windows in sets]


def _first_count(question, holding):
    """Before the row there is a window that does not compare so, unless the row begins at the start."""
    length = question[1]
    _, _, start, _ = span_of(question)
    earlier = question[8] - length + 1 - start
    if earlier < 0:
        return 0 if holding else 1
    if holding:
        return meeting_count(max(0, earlier - 1), length)
    return length + earlier


def _first_cases(question, holding):
    length = question[1]
    _, _, start, _ = span_of(question)
    begin = question[8] - length + 1
    if begin < start:
        return [] if holding else [[]]
    row = _window_demands(question, begin, begin + length, True)
    if holding:
        before = _window_demands(question, max(start, begin - 1), begin, False)
        sets = meeting_sets(start, max(0, begin - 1 - start), length)
        return [_set_demands(question, windows) + before + row for windows in sets]
    found = [_window_demands(question, window, window + 1, False) for window in range(begin, begin + length)]
    return found + [_window_demands(question, k, k + length, True) for k in range(start, begin)]


def _window_demands(question, start, end, holding):
    """The demands that each window from start to before the end compares so (or does not)."""
    who, level, _, _ = span_of(question)
    found = []
    for window in range(start, end):
        found.extend(_demands((who, level, window), bound_of(question), holding))
    return found


def _set_demands(question, windows):
    """The demands that no window of a set compares so."""
    return [demand for window in windows for demand in _window_demands(question, window, window + 1, False)]
