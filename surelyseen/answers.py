"""Answers to questions, and what shows them."""

from surelyseen.balances import is_clash
from surelyseen.boxes import fits_box, narrowed_by
from surelyseen.cases import cases, check_cases
from surelyseen.flows import fit
from surelyseen.questions import holds


def answer(box, question):
    """("clash", balance), ("yes", run, balances), ("no", run, balances) or ("open", run, other)."""
    check_cases(box.world, question)
    return answer_with(box, fit(box), question)


def answer_with(box, fitted, question):
    """What `answer` returns, found from what `fit` returns for the box.

    A run that fits leaves two of the words open; the cases of the other side decide between them.
    """
    world = box.world
    word, found = fitted
    if word == "clash":
        return ("clash", found)
    held = holds(world, found, question)
    balances = []
    for demands in cases(world, question, holding=not held):
        word, other = fit(narrowed_by(box, demands))
        if word == "run":
            return ("open", found, other) if held else ("open", other, found)
        balances.append(other)
    return ("yes" if held else "no", found, balances)


def shows(box, question, given):
    """Whether a tuple has the properties of an answer with its word."""
    world = box.world
    check_cases(world, question)
    word = given[0]
    if word == "clash":
        return _shows_clash(box, given[1])
    if word == "open":
        _, run, other = given
        if not fits_box(box, run) or not fits_box(box, other):
            return False
        return holds(world, run, question) and not holds(world, other, question)
    if word not in ("yes", "no"):
        return False
    _, run, balances = given
    against = cases(world, question, holding=word == "no")
    if not fits_box(box, run) or len(balances) != len(against):
        return False
    return all([_shows_clash(narrowed_by(box, demands), balance) for demands, balance in zip(against, balances)])


def _shows_clash(box, balance):
    """Whether a balance, which may also name sums that do not exist, shows a clash."""
    for asked, _ in balance:
        if asked not in box.world.places:
            return False
    return is_clash(box, balance)
