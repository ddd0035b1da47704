"""Which items make an answer sure."""

from surelyseen.answers import answer
from surelyseen.clashes import least_clash, thinned
from surelyseen.gathering import box_of


def reasons(setup, items, question):
    """Items for which the answer has the same word, another one if any is left out; None if the answer is open."""
    word = _word(setup, items, question)
    if word == "open":
        return None
    if word == "clash":
        return least_clash(setup, items)
    return thinned(items, lambda fewer: _word(setup, fewer, question) == word)


def _word(setup, items, question):
    return answer(box_of(setup, items), question)[0]
